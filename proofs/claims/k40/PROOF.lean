import PyProof.Rows.All
import Wide.All
import OpenK.AllK
import Wide.FinOn
import PyProof.ReprReads
import PyProof.Rows.StrIntSpec
import HandS.Base
import HandS.Call
import HandS.List
import HandS.Dict
import HandS.Ends
import HandS.Words
import HandS.WordsList
import HandS.WordsDict
import PyProof.ReprRoads
import HandS.IsInst
import HandS.Comp
import HandS.More
import HandS.Codes
import PyProof.RulesMatch
import PyProof.RulesMatchSeq
import PyProof.Rows.MatchSeqLen
import PyProof.Rows.TupIter
import HandS.TupAny
import HandS.TupMul
import HandS.Text
import HandS.Iter
import HandS.Deep
import HandS.TupLe
import PyProof.P3In
import PyProof.StrOps2
import HandS.Small
import KE.DataMinMax
import PyProof.Rows.CallKwBuiltin
import HandS.Exc
import HandS.ExcOwn
import HandS.ExcIs
import HandS.WordsExc
import PyProof.P3Eq
import PySem.Challenge.RW_trothbase_k40_shelves_keep_a_prefix
set_option Elab.async false
set_option maxRecDepth 100000
set_option maxHeartbeats 4000000
namespace Vk
open PySem
/-! # The text of a plain value tells the value: no two have one text -/
/-! ## integers -/
def intL (i : Int) : List Nat := (Str.ofString (toString i)).cps.toList
theorem ofString_codes (x : String) : (Str.ofString x).cps.toList = x.toList.map Char.toNat := by
  simp [Str.ofString_eq_toList]
theorem codes_inj : ∀ {a b : List Char}, a.map Char.toNat = b.map Char.toNat → a = b
  | [], [], _ => rfl
  | [], _ :: _, h => by cases h
  | _ :: _, [], h => by cases h
  | x :: a, y :: b, h => by
    injection h with h1 h2
    have e : x = y := Char.ext (UInt32.toNat_inj.mp h1)
    rw [e, codes_inj h2]
theorem intL_inj {i j : Int} (h : intL i = intL j) : i = j := by
  unfold intL at h
  rw [ofString_codes, ofString_codes] at h
  have e := codes_inj h
  have e2 : toString i = toString j := String.ext e
  exact Int.repr_inj.mp e2
theorem digits_are (m : Nat) : ∀ c ∈ (Nat.toDigits 10 m).map Char.toNat, 48 ≤ c ∧ c ≤ 57 := by
  intro c hc
  obtain ⟨d, hd, rfl⟩ := List.mem_map.mp hc
  have z := Nat.isDigit_of_mem_toDigits (b := 10) (by decide) (by decide) hd
  simp only [Char.isDigit, Bool.and_eq_true, decide_eq_true_eq, UInt32.le_iff_toNat_le] at z
  exact z
theorem intL_mem (i : Int) : ∀ c ∈ intL i, c = 45 ∨ (48 ≤ c ∧ c ≤ 57) := by
  intro c hc
  cases i with
  | ofNat m =>
    unfold intL at hc
    rw [PyProof.Rows.text_ofNat] at hc
    exact .inr (digits_are m c (by simpa using hc))
  | negSucc m =>
    have e : intL (Int.negSucc m) = 45 :: (Nat.toDigits 10 (m + 1)).map Char.toNat := by
      unfold intL
      rw [ofString_codes]
      show ("-" ++ Nat.repr (m + 1)).toList.map Char.toNat = _
      rw [String.toList_append, List.map_append]
      show [45] ++ (Nat.repr (m + 1)).toList.map Char.toNat = _
      have e2 : (Nat.repr (m + 1)).toList = Nat.toDigits 10 (m + 1) := by
        unfold Nat.repr
        exact String.toList_ofList
      rw [e2]
      rfl
    rw [e] at hc
    rcases List.mem_cons.mp hc with h | h
    · exact .inl h
    · exact .inr (digits_are _ c h)
theorem intL_ne (i : Int) : intL i ≠ [] := by
  intro h
  have e : toString i = "" := by
    unfold intL at h
    rw [ofString_codes] at h
    exact String.ext (List.map_eq_nil_iff.mp h)
  cases i with
  | ofNat m =>
    have len := Nat.length_toDigits_pos (b := 10) (n := m)
    have e2 : Nat.repr m = "" := e
    have e3 : (Nat.repr m).toList = Nat.toDigits 10 m := by
      unfold Nat.repr
      exact String.toList_ofList
    rw [e2] at e3
    rw [← e3] at len
    exact absurd len (by decide)
  | negSucc m =>
    have e2 : "-" ++ Nat.repr (m + 1) = "" := e
    have e3 := congrArg String.toList e2
    rw [String.toList_append] at e3
    cases e3
/-! ## texts -/
/-- signs from the space to ~ -/
def okS (x : Str) : Bool := x.cps.all fun c => decide (32 ≤ c) && decide (c ≤ 126)
theorem okS_mem {x : Str} (h : okS x = true) : ∀ c ∈ x.cps.toList, 32 ≤ c ∧ c ≤ 126 := by
  intro c hc
  unfold okS at h
  rw [Array.all_eq_true'] at h
  have z := h c (Array.mem_toList_iff.mp hc)
  simpa using z
theorem print_ascii : ∀ c : Nat, c < 127 → 32 ≤ c → Unicode.isPrintable c = true := by
  have z : (List.range 127).all (fun c => !decide (32 ≤ c) || Unicode.isPrintable c) = true := by decide +kernel
  intro c h1 h2
  have y := List.all_eq_true.mp z c (List.mem_range.mpr h1)
  simpa [h2] using y
theorem repr_ascii {q c : Nat} (h1 : 32 ≤ c) (h2 : c ≤ 126) : Builtin.Str.reprChar q c = if c = q ∨ c = 92 then [92, c] else [c] := by
  unfold Builtin.Str.reprChar
  by_cases h : c = q ∨ c = 92
  · rw [if_pos h]
    have e : (c == q || c == 92) = true := by
      rcases h with h | h <;> simp [h]
    simp only [e, if_true]
  · rw [if_neg h]
    have e : (c == q || c == 92) = false := by
      simp only [Bool.or_eq_false_iff, beq_eq_false_iff_ne]
      exact ⟨fun z => h (.inl z), fun z => h (.inr z)⟩
    have e1 : (c == 10) = false := beq_eq_false_iff_ne.mpr (by omega)
    have e2 : (c == 13) = false := beq_eq_false_iff_ne.mpr (by omega)
    have e3 : (c == 9) = false := beq_eq_false_iff_ne.mpr (by omega)
    simp [e, e1, e2, e3, print_ascii c (by omega) h1]
def body (q : Nat) : List Nat → List Nat
  | [] => []
  | c :: r => (if c = q ∨ c = 92 then [92, c] else [c]) ++ body q r
theorem body_inj (q : Nat) (hq : q ≠ 92) : ∀ (a b r1 r2 : List Nat), body q a ++ q :: r1 = body q b ++ q :: r2 → a = b ∧ r1 = r2
  | [], [], r1, r2, h => ⟨rfl, by injection h⟩
  | [], c :: b, r1, r2, h => by
    exfalso
    simp only [body] at h
    split at h
    · injection h with h1 _
      exact hq h1
    · rename_i n
      injection h with h1 _
      exact n (.inl h1.symm)
  | c :: a, [], r1, r2, h => by
    exfalso
    simp only [body] at h
    split at h
    · injection h with h1 _
      exact hq h1.symm
    · rename_i n
      injection h with h1 _
      exact n (.inl h1)
  | c :: a, d :: b, r1, r2, h => by
    simp only [body] at h
    split at h <;> split at h
    · simp only [List.cons_append, List.nil_append, List.append_assoc] at h
      injection h with _ h
      injection h with h1 h
      obtain ⟨e1, e2⟩ := body_inj q hq a b r1 r2 h
      exact ⟨by rw [h1, e1], e2⟩
    · rename_i n
      simp only [List.cons_append, List.nil_append] at h
      injection h with h1 _
      exact absurd (.inr h1.symm) n
    · rename_i n _
      simp only [List.cons_append, List.nil_append] at h
      injection h with h1 _
      exact absurd (.inr h1) n
    · simp only [List.cons_append, List.nil_append, List.append_assoc] at h
      injection h with h1 h
      obtain ⟨e1, e2⟩ := body_inj q hq a b r1 r2 h
      exact ⟨by rw [h1, e1], e2⟩
def strL (x : Str) : List Nat := (reprText x).cps.toList
theorem foldl_codes (q : Nat) : ∀ (l : List Nat) (acc : Array Nat), (∀ c ∈ l, 32 ≤ c ∧ c ≤ 126) → (l.foldl (fun out c => out ++ (Builtin.Str.reprChar q c).toArray) acc).toList = acc.toList ++ body q l
  | [], acc, _ => by simp [body]
  | c :: l, acc, h => by
    obtain ⟨h1, h2⟩ := h c List.mem_cons_self
    rw [List.foldl_cons, foldl_codes q l _ (fun d hd => h d (List.mem_cons_of_mem _ hd)), repr_ascii h1 h2]
    simp [body]
theorem quote_is (x : Str) : reprQuote x = 34 ∨ reprQuote x = 39 := by
  unfold reprQuote
  split
  · exact .inl rfl
  · exact .inr rfl
theorem strL_eq {x : Str} (h : okS x = true) : strL x = reprQuote x :: (body (reprQuote x) x.cps.toList ++ [reprQuote x]) := by
  unfold strL reprText
  rw [Array.toList_push, ← Array.foldl_toList, foldl_codes _ _ _ (okS_mem h)]
  simp
theorem strL_inj {x y : Str} (hx : okS x = true) (hy : okS y = true) {r1 r2 : List Nat} (h : strL x ++ r1 = strL y ++ r2) : x = y ∧ r1 = r2 := by
  rw [strL_eq hx, strL_eq hy] at h
  simp only [List.cons_append, List.append_assoc, List.nil_append] at h
  injection h with hq h
  rw [← hq] at h
  obtain ⟨e1, e2⟩ := body_inj (reprQuote x) (by rcases quote_is x with e | e <;> rw [e] <;> decide) _ _ _ _ h
  refine ⟨?_, e2⟩
  cases x
  cases y
  congr
  exact Array.toList_inj.mp e1
end Vk
namespace Vk
open PySem
/-! ## whole values -/
mutual
/-- plain, of signs that are written as they are, of integers that are not too long -/
def okD : PyData → Bool
  | .none => true
  | .bool _ => true
  | .int i => decide (i.natAbs.log2 < 1920)
  | .str x => okS x
  | .tuple xs => okDs xs
  | .list _ => false
  | .dict _ => false
def okDs : List PyData → Bool
  | [] => true
  | x :: xs => okD x && okDs xs
end
def joinL : List (List Nat) → List Nat
  | [] => []
  | [x] => x
  | x :: y :: r => x ++ (44 :: 32 :: joinL (y :: r))
def closeL (n : Nat) : List Nat := if n = 1 then [44, 41] else [41]
mutual
def encD : PyData → List Nat
  | .none => [78, 111, 110, 101]
  | .bool true => [84, 114, 117, 101]
  | .bool false => [70, 97, 108, 115, 101]
  | .int i => intL i
  | .str x => strL x
  | .tuple xs => 40 :: (joinL (encDs xs) ++ closeL xs.length)
  | .list _ => []
  | .dict _ => []
def encDs : List PyData → List (List Nat)
  | [] => []
  | x :: xs => encD x :: encDs xs
end
theorem app_codes (a b : Str) : (a ++ b).cps.toList = a.cps.toList ++ b.cps.toList := by
  show (a.cps ++ b.cps).toList = _
  simp
theorem join_codes (f : PyData → List Nat) : ∀ ts : List Str, (Str.join ", " ts).cps.toList = joinL (ts.map fun t => t.cps.toList)
  | [] => rfl
  | [x] => rfl
  | x :: y :: r => by
    have ih := join_codes f (y :: r)
    show (x ++ ", " ++ Str.join ", " (y :: r)).cps.toList = _
    rw [app_codes, app_codes, ih, ofString_codes]
    simp [joinL]
theorem encDs_len : ∀ xs : List PyData, (encDs xs).length = xs.length
  | [] => rfl
  | x :: xs => by simp [encDs, encDs_len xs]
theorem shownAll_len : ∀ xs : List PyData, (PyData.shownAll xs).length = xs.length
  | [] => rfl
  | x :: xs => by simp [PyData.shownAll, shownAll_len xs]
mutual
theorem shown_codes : ∀ d : PyData, okD d = true → (PyData.shown d).cps.toList = encD d
  | .none, _ => by rw [PyData.shown, encD]; decide +kernel
  | .bool true, _ => by rw [PyData.shown, encD]; decide +kernel
  | .bool false, _ => by rw [PyData.shown, encD]; decide +kernel
  | .int i, _ => by rw [PyData.shown, encD]; rfl
  | .str x, _ => by rw [PyData.shown, encD]; rfl
  | .tuple xs, h => by
    have h' : okDs xs = true := by simpa [okD] using h
    rw [PyData.shown, encD]
    unfold tupleText
    rw [app_codes, app_codes, join_codes encD, shown_codesAll xs h', shownAll_len]
    by_cases e : xs.length = 1
    · simp only [e, closeL, if_true, beq_self_eq_true]
      rw [ofString_codes, ofString_codes]
      simp
    · have e2 : (xs.length == 1) = false := beq_eq_false_iff_ne.mpr e
      simp only [e, e2, closeL, if_false, Bool.false_eq_true]
      rw [ofString_codes, ofString_codes]
      simp
  | .list _, h => by simp [okD] at h
  | .dict _, h => by simp [okD] at h
theorem shown_codesAll : ∀ xs : List PyData, okDs xs = true → (PyData.shownAll xs).map (fun t => t.cps.toList) = encDs xs
  | [], _ => rfl
  | x :: xs, h => by
    have h' : okD x = true ∧ okDs xs = true := by simpa [okDs] using h
    simp only [PyData.shownAll, List.map_cons, encDs, shown_codes x h'.1, shown_codesAll xs h'.2]
end
/-- the kind of a value, by its first sign -/
def kindOf (c : Nat) : Nat := if c = 78 then 0 else if c = 84 ∨ c = 70 then 1 else if c = 34 ∨ c = 39 then 3 else if c = 40 then 4 else 2
def kindD : PyData → Nat
  | .none => 0
  | .bool _ => 1
  | .int _ => 2
  | .str _ => 3
  | .tuple _ => 4
  | .list _ => 5
  | .dict _ => 5
theorem first_sign : ∀ d : PyData, okD d = true → ∃ c t, encD d = c :: t ∧ kindOf c = kindD d ∧ c ≠ 41 ∧ c ≠ 44
  | .none, _ => ⟨78, [111, 110, 101], rfl, rfl, by decide, by decide⟩
  | .bool true, _ => ⟨84, _, rfl, rfl, by decide, by decide⟩
  | .bool false, _ => ⟨70, _, rfl, rfl, by decide, by decide⟩
  | .int i, _ => by
    have m := intL_mem i
    cases e : intL i with
    | nil => exact absurd e (intL_ne i)
    | cons c t =>
      have z := m c (by rw [e]; exact List.mem_cons_self)
      refine ⟨c, t, by rw [encD]; exact e, ?_, by omega, by omega⟩
      show kindOf c = 2
      unfold kindOf
      rw [if_neg (by omega), if_neg (by omega), if_neg (by omega), if_neg (by omega)]
  | .str x, h => by
    have e := strL_eq (x := x) h
    refine ⟨reprQuote x, _, by rw [encD]; exact e, ?_, ?_, ?_⟩
    · rcases quote_is x with z | z <;> rw [z] <;> rfl
    · rcases quote_is x with z | z <;> rw [z] <;> decide
    · rcases quote_is x with z | z <;> rw [z] <;> decide
  | .tuple xs, _ => ⟨40, _, by rw [encD], rfl, by decide, by decide⟩
  | .list _, h => by simp [okD] at h
  | .dict _, h => by simp [okD] at h
def Stop (r : List Nat) : Prop := r = [] ∨ ∃ c t, r = c :: t ∧ (c = 41 ∨ c = 44)
/-- two rows of signs, each behind it a stop: cut at the first stop -/
theorem cut_stop : ∀ (a b r1 r2 : List Nat), (∀ c ∈ a, c ≠ 41 ∧ c ≠ 44) → (∀ c ∈ b, c ≠ 41 ∧ c ≠ 44) → Stop r1 → Stop r2 → a ++ r1 = b ++ r2 → a = b ∧ r1 = r2
  | [], [], _, _, _, _, _, _, h => ⟨rfl, h⟩
  | [], d :: b, r1, r2, _, hb, s1, _, h => by
    exfalso
    have z := hb d List.mem_cons_self
    rcases s1 with rfl | ⟨c, t, rfl, hc⟩
    · cases h
    · injection h with h1 _
      omega
  | c :: a, [], r1, r2, ha, _, _, s2, h => by
    exfalso
    have z := ha c List.mem_cons_self
    rcases s2 with rfl | ⟨d, t, rfl, hc⟩
    · cases h
    · injection h with h1 _
      omega
  | c :: a, d :: b, r1, r2, ha, hb, s1, s2, h => by
    injection h with h1 h
    obtain ⟨e1, e2⟩ := cut_stop a b r1 r2 (fun x hx => ha x (List.mem_cons_of_mem _ hx)) (fun x hx => hb x (List.mem_cons_of_mem _ hx)) s1 s2 h
    exact ⟨by rw [h1, e1], e2⟩
theorem close_stop (n : Nat) (r : List Nat) : Stop (closeL n ++ r) := by
  unfold closeL
  split
  · exact .inr ⟨44, _, rfl, .inr rfl⟩
  · exact .inr ⟨41, _, rfl, .inl rfl⟩
theorem kind_same {d e : PyData} (hd : okD d = true) (he : okD e = true) {r1 r2 : List Nat} (h : encD d ++ r1 = encD e ++ r2) : kindD d = kindD e := by
  obtain ⟨c, t, e1, k1, _⟩ := first_sign d hd
  obtain ⟨c', t', e2, k2, _⟩ := first_sign e he
  rw [e1, e2] at h
  injection h with h1 _
  rw [← k1, ← k2, h1]
mutual
theorem enc_inj : ∀ (d e : PyData) (r1 r2 : List Nat), okD d = true → okD e = true → Stop r1 → Stop r2 → encD d ++ r1 = encD e ++ r2 → d = e ∧ r1 = r2
  | .none, e, r1, r2, hd, he, s1, s2, h => by
    have k := kind_same hd he h
    cases e with
    | none => exact ⟨rfl, List.append_cancel_left h⟩
    | _ => simp [kindD] at k
  | .bool b, e, r1, r2, hd, he, s1, s2, h => by
    have k := kind_same hd he h
    cases e with
    | bool b' =>
      cases b <;> cases b'
      · exact ⟨rfl, List.append_cancel_left h⟩
      · simp [encD] at h
      · simp [encD] at h
      · exact ⟨rfl, List.append_cancel_left h⟩
    | _ => simp [kindD] at k
  | .int i, e, r1, r2, hd, he, s1, s2, h => by
    have k := kind_same hd he h
    cases e with
    | int j =>
      rw [encD, encD] at h
      obtain ⟨e1, e2⟩ := cut_stop _ _ _ _ (fun c hc => by have z := intL_mem i c hc; omega) (fun c hc => by have z := intL_mem j c hc; omega) s1 s2 h
      exact ⟨by rw [intL_inj e1], e2⟩
    | _ => simp [kindD] at k
  | .str x, e, r1, r2, hd, he, s1, s2, h => by
    have k := kind_same hd he h
    cases e with
    | str y =>
      rw [encD, encD] at h
      obtain ⟨e1, e2⟩ := strL_inj (x := x) (y := y) (by simpa [okD] using hd) (by simpa [okD] using he) h
      exact ⟨by rw [e1], e2⟩
    | _ => simp [kindD] at k
  | .tuple xs, e, r1, r2, hd, he, s1, s2, h => by
    have k := kind_same hd he h
    cases e with
    | tuple ys =>
      rw [encD, encD] at h
      simp only [List.cons_append, List.append_assoc] at h
      injection h with _ h
      have hx : okDs xs = true := by simpa [okD] using hd
      have hy : okDs ys = true := by simpa [okD] using he
      cases xs with
      | nil =>
        cases ys with
        | nil => exact ⟨rfl, List.append_cancel_left h⟩
        | cons y ys =>
          exfalso
          have hy' : okD y = true := by simp [okDs] at hy; exact hy.1
          obtain ⟨c, t, e1, _, n1, n2⟩ := first_sign y hy'
          have e2 : ∃ t', joinL (encDs (y :: ys)) = c :: t' := by
            cases ys with
            | nil => exact ⟨t, e1⟩
            | cons z zs => exact ⟨_, by simp only [encDs, joinL, e1]; rfl⟩
          obtain ⟨t', e2⟩ := e2
          rw [e2] at h
          injection h with h1 _
          exact n1 h1.symm
      | cons x xs =>
        cases ys with
        | nil =>
          exfalso
          have hx' : okD x = true := by simp [okDs] at hx; exact hx.1
          obtain ⟨c, t, e1, _, n1, n2⟩ := first_sign x hx'
          have e2 : ∃ t', joinL (encDs (x :: xs)) = c :: t' := by
            cases xs with
            | nil => exact ⟨t, e1⟩
            | cons z zs => exact ⟨_, by simp only [encDs, joinL, e1]; rfl⟩
          obtain ⟨t', e2⟩ := e2
          rw [e2] at h
          injection h with h1 _
          exact n1 h1
        | cons y ys =>
          obtain ⟨e1, e2⟩ := enc_injs (x :: xs) y ys _ _ r1 r2 hx hy h
          exact ⟨by rw [e1], e2⟩
    | _ => simp [kindD] at k
  | .list _, _, _, _, h, _, _, _, _ => by simp [okD] at h
  | .dict _, _, _, _, h, _, _, _, _ => by simp [okD] at h
theorem enc_injs : ∀ (l : List PyData) (y : PyData) (ys : List PyData) (n m : Nat) (r1 r2 : List Nat), okDs l = true → okDs (y :: ys) = true →
    joinL (encDs l) ++ (closeL n ++ r1) = joinL (encDs (y :: ys)) ++ (closeL m ++ r2) → l = y :: ys ∧ r1 = r2
  | [], y, ys, n, m, r1, r2, _, hy, h => by
    exfalso
    have hy' : okD y = true := by simp [okDs] at hy; exact hy.1
    obtain ⟨c, t, e1, _, n1, n2⟩ := first_sign y hy'
    have e2 : ∃ t', joinL (encDs (y :: ys)) = c :: t' := by
      cases ys with
      | nil => exact ⟨t, e1⟩
      | cons z zs => exact ⟨_, by simp only [encDs, joinL, e1]; rfl⟩
    obtain ⟨t', e2⟩ := e2
    rw [e2] at h
    simp only [encDs, joinL, List.nil_append] at h
    unfold closeL at h
    split at h <;> (injection h with h1 _; omega)
  | [x], y, ys, n, m, r1, r2, hx, hy, h => by
    have hx' : okD x = true := by simp [okDs] at hx; exact hx
    have hy' : okD y = true := by simp [okDs] at hy; exact hy.1
    cases ys with
    | nil =>
      simp only [encDs, joinL] at h
      obtain ⟨e1, e2⟩ := enc_inj x y _ _ hx' hy' (close_stop n r1) (close_stop m r2) h
      refine ⟨by rw [e1], ?_⟩
      unfold closeL at e2
      split at e2 <;> split at e2
      · simpa using e2
      · injection e2 with z _; cases z
      · injection e2 with z _; cases z
      · simpa using e2
    | cons z zs =>
      exfalso
      simp only [encDs, joinL, List.append_assoc, List.cons_append] at h
      obtain ⟨e1, e2⟩ := enc_inj x y _ _ hx' hy' (close_stop n r1) (.inr ⟨44, _, rfl, .inr rfl⟩) h
      unfold closeL at e2
      split at e2
      · injection e2 with _ z
        injection z with z _
        cases z
      · injection e2 with z _
        cases z
  | x :: x2 :: l, y, ys, n, m, r1, r2, hx, hy, h => by
    have hx' : okD x = true ∧ okDs (x2 :: l) = true := by
      have z : (okD x && okDs (x2 :: l)) = true := by rw [okDs] at hx; exact hx
      exact Bool.and_eq_true_iff.mp z
    have hy' : okD y = true := by simp [okDs] at hy; exact hy.1
    cases ys with
    | nil =>
      exfalso
      simp only [encDs, joinL, List.append_assoc, List.cons_append] at h
      obtain ⟨e1, e2⟩ := enc_inj x y _ _ hx'.1 hy' (.inr ⟨44, _, rfl, .inr rfl⟩) (close_stop m r2) h
      rcases (show closeL m = [44, 41] ∨ closeL m = [41] by unfold closeL; split <;> simp) with cm | cm
      · rw [cm] at e2
        injection e2 with _ z
        injection z with z _
        cases z
      · rw [cm] at e2
        injection e2 with z _
        cases z
    | cons z zs =>
      have hz : okDs (z :: zs) = true := by
        have q : (okD y && okDs (z :: zs)) = true := by rw [okDs] at hy; exact hy
        exact (Bool.and_eq_true_iff.mp q).2
      have h2 : encD x ++ (44 :: 32 :: (joinL (encDs (x2 :: l)) ++ (closeL n ++ r1))) = encD y ++ (44 :: 32 :: (joinL (encDs (z :: zs)) ++ (closeL m ++ r2))) := by
        simpa only [encDs, joinL, List.append_assoc, List.cons_append] using h
      obtain ⟨e1, e2⟩ := enc_inj x y _ _ hx'.1 hy' (.inr ⟨44, _, rfl, .inr rfl⟩) (.inr ⟨44, _, rfl, .inr rfl⟩) h2
      injection e2 with _ e2
      injection e2 with _ e2
      obtain ⟨e3, e4⟩ := enc_injs (x2 :: l) z zs n m r1 r2 hx'.2 hz e2
      exact ⟨by rw [e1, e3], e4⟩
end
theorem shown_inj {d e : PyData} (hd : okD d = true) (he : okD e = true) (h : PyData.shown d = PyData.shown e) : d = e := by
  have z : encD d ++ [] = encD e ++ [] := by
    rw [List.append_nil, List.append_nil, ← shown_codes d hd, ← shown_codes e he, h]
  exact (enc_inj d e [] [] hd he (.inl rfl) (.inl rfl) z).1
mutual
theorem okD_show : ∀ d : PyData, okD d = true → PyData.showable d = true
  | .none, _ => rfl
  | .bool _, _ => rfl
  | .int i, h => by simpa [okD, PyData.showable] using h
  | .str _, _ => rfl
  | .tuple xs, h => by
    rw [PyData.showable]
    exact okDs_show xs (by simpa [okD] using h)
  | .list _, h => by simp [okD] at h
  | .dict _, h => by simp [okD] at h
theorem okDs_show : ∀ xs : List PyData, okDs xs = true → PyData.showableAll xs = true
  | [], _ => rfl
  | x :: xs, h => by
    have h' : okD x = true ∧ okDs xs = true := by simpa [okDs] using h
    rw [PyData.showableAll, okD_show x h'.1, okDs_show xs h'.2]
    rfl
end
mutual
theorem okD_noDict : ∀ d : PyData, okD d = true → PyData.hasDict d = false
  | .none, _ => rfl
  | .bool _, _ => rfl
  | .int i, _ => rfl
  | .str _, _ => rfl
  | .tuple xs, h => by
    rw [PyData.hasDict]
    exact okDs_noDict xs (by simpa [okD] using h)
  | .list _, h => by simp [okD] at h
  | .dict _, h => by simp [okD] at h
theorem okDs_noDict : ∀ xs : List PyData, okDs xs = true → PyData.hasDictAll xs = false
  | [], _ => rfl
  | x :: xs, h => by
    have h' : okD x = true ∧ okDs xs = true := by simpa [okDs] using h
    rw [PyData.hasDictAll, okD_noDict x h'.1, okDs_noDict xs h'.2]
    rfl
end
end Vk
namespace Vk
open PySem PySem.Spec PyProof.Rows L2
/-! # Defs that write values as texts: they are called where no text of a value is being written (no guard) -/
/-- a def's promise, wherever no guard stands -/
structure Gk (P : Program) (w : World) (K : PySem.W.Frag) (mg : Str → Option Value) (base : Heap) (k : Nat) (f : Addr) (fd : FuncData) (ps : List Str) (sp : Sp) : Prop where
  len : ∀ vs H Q E, sp vs H Q E → vs.length = ps.length
  go : ∀ {A : Around} {out : List Env} {s : Shared} {H : Hp} {args : Args} {us : List Value} {vs : List V} {Q : VK} {E : XK},
    A.guards = some [] → Room k A → Env0 P w K mg base A out s H → BindsTo s fd args (ps.zip us) → Vals vs us → sp vs H Q E →
      codeAny (model P w) A (.call (.ref f) args) (CR CX0 out P w H s Q E) s
section
variable {P : Program} {w : World} {K : PySem.W.Frag} {mg : Str → Option Value} {base : Heap} {k : Nat} {f : Addr} {fd : FuncData} {ps : List Str} {sp : Sp}
theorem Gk.of (F : FnOk P w K mg base CX0 k f fd ps sp) : Gk P w K mg base k f fd ps sp :=
  ⟨F.len, fun {A out s H args us vs Q E} _ r e b v h => F.run A out s H args us vs Q E r e b v h⟩
theorem deeper_guards {A : Around} (env : Env) (h : A.guards = some []) : (A.deeper env).guards = some [] := h
/-- the rule for a def that is called where no guard stands: its body as a term, and the reading of it -/
theorem okG {x qual : Str} {st : Stmt} {N : List Str} (F : Fun K x qual st f fd) (S : FnScope N ps (defScope st))
    (len : ∀ vs H Q E, sp vs H Q E → vs.length = ps.length)
    (bodyOk : ∀ (cd : Value) (A : Around) (out : List Env) (s : Shared) (H : Hp) (vs : List V) (Q : VK) (E : XK),
      (A.deeper (envOfC qual (defScope st) s.heap.objs.size f cd)).guards = some [] →
      Room k (A.deeper (envOfC qual (defScope st) s.heap.objs.size f cd)) → sp vs H Q E →
      ∃ t, PSs (cxOf CX0 P w K mg base N qual (defScope st) f cd A out s H E).nox (defBody st) t ∧
        t { nx := fun _ H' => Q .non H', rt := Q } (start N vs) H) : Gk P w K mg base (k + 1) f fd ps sp := by
  obtain ⟨oc, od, kV, doc, pm, an, cd, ct, sl, rfl, look, code⟩ := F.ex
  refine ⟨len, fun {A out s H args us vs Q E} hg room en bind vals want => ?_⟩
  have n1 := len _ _ _ _ want
  have inK : K.In s.heap := en.mod.kin.keeps (fun b o e => (en.bs b o e).1)
  have noLim : s.heap.NoLimit := en.mod.nolimit.keeps (fun b o e => (en.bs b o e).1)
  have kinds : ∀ y ∈ ps.zip us, (defScope st).names.lookup y.1 = some .local ∨
      ((defScope st).names.lookup y.1 = some .cell ∧ ((cellsFrom (s.heap.objs.size + 1) (defScope st).names []).lookup y.1).isSome = true) := by
    rintro ⟨n, u⟩ hy
    cases S.par n (List.of_mem_zip hy).1 with
    | inl q => exact Or.inl q
    | inr q => exact Or.inr ⟨q, PySem.W.cellsFrom_some _ _ _ (Or.inl q)⟩
  refine codeAny_call_function room.depth (inK _ _ look) rfl S.co S.gen rfl (PySem.W.codeRec_of inK code) (bind _ _ _ _ ?_)
  refine wpAny_newFunctionEnv_cells S.kind kinds (fun env he st1 inCall => ?_)
  cases he
  refine ⟨noLim.keeps inCall.toInCall.keep, codeAny_func ?_⟩
  obtain ⟨t, ht, hq⟩ := bodyOk cd A out s H vs Q E hg (room.deeper _) want
  have inv : Inv (cxOf CX0 P w K mg base N qual (defScope st) f cd A out s H E) [] (start N vs) H st1 := inv_start S room.hd en n1 vals inCall
  refine wpAny_mono (ht.nox.run [] st1 _ H _ inv hq) (fun fl s2 h2 => ?_) (fun e s2 h2 => h2)
  have fin : ∀ {σ : L2.St} {H2 : Hp} {v : V} {u : Value}, Inv (cxOf CX0 P w K mg base N qual (defScope st) f cd A out s H E) [] σ H2 s2 → RelV v u → Q v H2 → CE out P w H s Q u s2 :=
    fun {σ H2 v u} J r q => ⟨v, H2, J.os, J.bare, J.base, J.hok, r, q⟩
  match fl, h2 with
  | .ret u, ⟨v, σ, H2, J, r, q⟩ => exact fin J r q
  | .next, ⟨σ, H2, J, q⟩ => exact fin (v := V.non) (u := Value.none) J rfl q
  | .brk, ⟨_, _, _, q⟩ => exact q.elim
  | .cont, ⟨_, _, _, q⟩ => exact q.elim
end
section
variable {X : Cx} {k : Nat} {f C : Addr} {fd : FuncData} {ps : List Str} {sp : Sp} {x m : Str} {p pos apos : Pos} {e o : Expr} {es : List Expr} {ta : TE} {t : TA}
theorem runG {pins : List (Addr × Obj)} {σ : L2.St} {H : Hp} {s : Shared} {Q : VK} {us : List Value} {vs : List V} (hg : X.A.guards = some []) (F : Gk X.prog X.w X.K X.mg X.base k f fd ps sp) (room : Room k X.A) (B : Binds X.K fd ps [])
    (I : Inv X pins σ H s) (vals : Vals vs us) (want : sp vs H Q E0) : wpAny (model X.prog X.w) X.A (call (.ref f) us) (EP X pins σ Q) X.xe s := by
  have n1 : us.length = ps.length := by
    rw [← vals.length]
    exact F.len _ _ _ _ want
  have bind := B s us I.kIn (by rw [List.append_nil]; exact n1)
  rw [List.append_nil] at bind
  refine wpAny_call (codeAny_mono (F.go (args := ⟨us, []⟩) hg room I.env0 bind vals want) (fun r s2 h2 => ?_))
  match r, h2 with
  | .error _, h => exact h.elim
  | .ok (.ret u), h => exact I.after h
  | .ok .next, h => exact h.elim
  | .ok .brk, h => exact h.elim
  | .ok .cont, h => exact h.elim
/-- f(e, ..) -/
theorem pe_callG (hg : X.A.guards = some []) (F : Gk X.prog X.w X.K X.mg X.base k f fd ps sp) (room : Room k X.A) (gl : Gl X x) (hm : X.mg x = some (.ref f)) (kp : PySem.W.keepIn X.K (.ref f) = true) (B : Binds X.K fd ps [])
    (ha : PA X (e :: es) t) (dbg : (x == ("__debug__" : Str)) = false := by decide)
    (st : starEach (e :: es) X.env = (false, eval e X.env) :: starEach es X.env := by rfl)
    (pl : (backTo pos (starEach es X.env)).any (·.1) = false := by rfl) :
    PE X (.Call (.Name x p) (e :: es) [] pos) (tCall sp [] E0 t) := by
  constructor
  intro pins s σ H Q I h
  refine wpAny_Call_Name_kw (ld_glob I gl hm ?_ dbg)
  refine PySem.W.callWith_K (h₀ := X.base) I.ok.mod.kin kp (thn (ha.run pos pins s σ H _ I h) ?_) st pl
  rintro us s1 ⟨vs, H1, I1, r, q⟩
  rw [List.append_nil] at q
  exact ⟨I1.kIn, runG hg F room B I1 r q⟩
/-- o.m(e, ..) -/
theorem pe_methG {pl : Sem Bool} (hg : X.A.guards = some []) (he : PE X o ta) (c : Cls X.K C) (hm : Meth X.K C m f) (F : Gk X.prog X.w X.K X.mg X.base k f fd ps sp) (room : Room k X.A) (B : Binds X.K fd ps [])
    (ha : PA X (e :: es) t)
    (st : starEach (e :: es) X.env = (false, eval e X.env) :: starEach es X.env := by rfl)
    (pb : (backTo pos (starEach es X.env)).any (·.1) = false := by rfl)
    (ht : eval (.Call (.Attribute o m apos) (e :: es) [] pos) X.env = (do
        let ov ← eval o X.env
        standAt apos.atName
        let fm ← holding [ov] (getMethod ov m pl)
        callWith pos fm.1 fm.2 (backTo pos (starEach (e :: es) X.env)) (backToKw pos (keywordEach [] X.env))) := by rfl) :
    PE X (.Call (.Attribute o m apos) (e :: es) [] pos) (tMeth C m sp [] E0 ta t) := by
  constructor
  intro pins s σ H Q I h
  refine PySem.W.methodCall_KW (pl := pl) (thn (he.run pins s σ H _ I h) ?_) ht
  rintro u s1 ⟨v, H1, I1, rv, a, dx, fs, ev, ea, lo, q⟩
  cases ev
  cases (show u = Value.ref a from rv)
  refine getmeth_ok I1 ea c hm lo ?_
  refine PySem.W.callWith_K (first := [.ref a]) (h₀ := X.base) I.ok.mod.kin hm.kp (thn (ha.run pos pins s1 σ H1 _ I1 q) ?_) st pb
  rintro us s2 ⟨vs, H2, I2, r, q2⟩
  rw [List.append_nil] at q2
  exact ⟨I2.kIn, runG (us := .ref a :: us) (vs := .ref a :: vs) hg F room B I2 (.cons rfl r) q2⟩
/-- repr of a plain value -/
def rRepr (K : PySem.W.Frag) : List V → Hp → VK → Prop := fun xs H Q => ∃ x d, xs = [x] ∧ Dp K H x d ∧ okD d = true ∧ d.depth ≤ 60 ∧ d.shown.length ≤ sizeLine ∧ Q (.str d.shown) H
theorem call_reprD (hg : X.A.guards = some []) (room : Room k X.A) : CallR X (.builtin "repr") (rRepr X.K) := by
  intro pins s σ H xs us Q I r h
  obtain ⟨x, d, rfl, hd, ok, dep, len, q⟩ := h
  obtain ⟨u, rfl, rx⟩ := vals1 r
  have hu := room.units
  cases d with
  | none =>
    cases hd
    cases rx
    exact PySem.P.repr_of_none ⟨.str _, H, I.tok _, ⟨_, rfl⟩, q⟩
  | bool b =>
    cases hd
    cases rx
    exact PySem.P.repr_of_bool ⟨.str _, H, I.tok _, ⟨_, rfl⟩, q⟩
  | int i =>
    cases hd
    obtain ⟨t, rfl⟩ := rx
    exact PySem.P.repr_of_int (by simpa [okD] using ok) ⟨.str _, H, I.tok _, ⟨_, rfl⟩, q⟩
  | str y =>
    cases hd
    obtain ⟨t, rfl⟩ := rx
    exact PySem.P.repr_of_str ⟨.str _, H, I.tok _, ⟨_, rfl⟩, q⟩ (by simpa [PyData.shown] using len)
  | tuple xs =>
    obtain ⟨as, rd⟩ := Dp.reads I _ _ _ hd rx
    cases hd
    cases rx
    refine PySem.repr_of_reads' rd (okD_show _ ok) (fun z => ?_) hg (by omega) (fun _ _ e => e) (fun h' u tk kp => ?_) len
    · rw [okD_noDict _ ok] at z
      cases z
    · exact ⟨.str _, H, I.kept (t' := tk) kp, ⟨u, rfl⟩, q⟩
  | list _ => simp [okD] at ok
  | dict _ => simp [okD] at ok
end
/-! ## the law's own call -/
theorem callG {P : Program} {w : World} {K : PySem.W.Frag} {mg mb : Str → Option Value} {k : Nat} {fa a : Addr} {fd : FuncData} {x : Str} {sp : Sp} {st : Shared} {us : List Value} {ns : List Int}
    (inK : K.In st.heap) (nsM : st.heap.Ns mainGlobals mg) (nsB : st.heap.Ns builtinsNs mb) (boot : ∀ x : Str, x ≠ "__name__" → mb x = bootBuiltins x) (noLim : st.heap.NoLimit) (noGen : st.gens = #[])
    (atA : st.heap.get? a = some { cls := .type "list", data := .seq us.toArray }) (intsA : IntsAre us ns) (len : ns.length ≤ sizeLine) (room : Room k callerA)
    (F : ∀ base : Heap, K.In base → base.Ns mainGlobals mg → Gk P w K mg base k fa fd [x] sp) (bind : ∀ (s : Shared) (u : Value), BindsTo s fd ⟨[u], []⟩ [(x, u)])
    (want : ∀ H : Hp, Only H → SqL K H a (ns.map V.int) → sp [.ref a] H (fun v _ => v = .bl true) fun _ _ _ => False) :
    codeAny (model P w) callerA (.call (.ref fa) ⟨[.ref a], []⟩) (fun r s' => r = .ok (.ret (.bool true)) ∧ OldK st.heap s'.heap ∧ s'.os = st.os ∧ AllBare s'.gens) st := by
  have valsA : Vals (ns.map V.int) us := vals_ints intsA
  have sizes := intsA.length
  have main : ∀ H : Hp, Only H → SqL K H a (ns.map V.int) → HOk P w H st.heap → (∀ b, H b ≠ none → b = a) → (H a ≠ none → K.lookup a = none) →
      codeAny (model P w) callerA (.call (.ref fa) ⟨[.ref a], []⟩) (fun r s' => r = .ok (.ret (.bool true)) ∧ OldK st.heap s'.heap ∧ s'.os = st.os ∧ AllBare s'.gens) st := by
    intro H only sq ok atMost apart
    have dictFree : ∀ {b : Addr} {o : Obj} {es : Array DictEntry} {ep : Nat}, st.heap.get? b = some o → o.data = .dict es ep → H b = none := by
      intro b o es ep e d
      cases hb : H b with
      | none => rfl
      | some u =>
        cases atMost b (by rw [hb]; exact fun z => nomatch z)
        rw [atA] at e
        cases e
        exact nomatch (show Data.seq us.toArray _ = Data.dict es ep from d)
    have nsH : ∀ {b : Addr} {m : Str → Option Value}, st.heap.Ns b m → (hidT st.heap H).Ns b m := by
      rintro b m ⟨o, es, ep, e, d, rest⟩
      exact ⟨o, es, ep, hidT_get e (dictFree e d), d, rest⟩
    have inH : K.In (hidT st.heap H) := by
      intro b o e
      refine hidT_get (inK b o e) ?_
      cases hb : H b with
      | none => rfl
      | some u =>
        have eb := atMost b (by rw [hb]; exact fun z => nomatch z)
        rw [eb] at e hb
        rw [apart (by rw [hb]; exact fun z => nomatch z)] at e
        cases e
    have modH : Mod K mg (hidT st.heap H) := by
      obtain ⟨mc, z1, z2⟩ := id noLim
      exact ⟨inH, nsH nsM, ⟨mb, nsH nsB, boot⟩, ⟨mc, nsH z1, z2⟩⟩
    have en : Env0 P w K mg (hidT st.heap H) callerA [] st H :=
      { frames := rfl, mod := modH, bs := fun b o e => of_hidT e, bsz := Nat.le_of_eq (hidT_size _ _), funs := trivial, frf := (fun b hb => nomatch hb), hok := ok, bare := .of_eq noGen }
    have run := (F _ inH (nsH nsM)).go (out := []) (args := ⟨[.ref a], []⟩) (us := [.ref a]) (vs := [.ref a]) rfl room en (bind st (.ref a)) (.cons rfl .nil) (want H only sq)
    refine codeAny_mono run (fun r s2 h2 => ?_)
    match r, h2 with
    | .error _, h => exact h.elim
    | .ok .next, h => exact h.elim
    | .ok .brk, h => exact h.elim
    | .ok .cont, h => exact h.elim
    | .ok (.ret u), ⟨v, H2, osE, bareE, un, ok2, rv, q⟩ =>
      cases (show v = .bl true from q)
      cases (show u = Value.bool true from rv)
      refine ⟨rfl, OldK.of_keep (fun b o e => ?_), osE, bareE⟩
      cases hb : H b with
      | none => exact un.keep b o e hb (fun z => nomatch z) (fun z => nomatch z)
      | some u =>
        rcases only b with z | ⟨ob, xs, z⟩
        · rw [hb] at z
          cases z
        · have y1 := (ok b _ z).1
          have y2 := (ok2 b _ (un.frzs b ob _ z)).1
          rw [e] at y1
          cases y1
          exact y2
  cases known : K.lookup a with
  | some o =>
    have e := inK a o known
    rw [atA] at e
    cases e
    refine main (fun _ => none) (fun _ => Or.inl rfl) (Or.inr ⟨_, us.toArray, _, known, rfl, rfl, rfl, ?_, by simpa using valsA⟩) (fun b u z => nomatch z) (fun b z => absurd rfl z) (fun z => absurd rfl z)
    rw [List.size_toArray, sizes]
    exact len
  | none =>
    have at1 : ∀ {b : Addr} {o : HO}, (if b = a then some (HO.frz { cls := .type "list", data := .seq us.toArray } (.lst (ns.map V.int))) else none) = some o → b = a ∧ o = HO.frz { cls := .type "list", data := .seq us.toArray } (.lst (ns.map V.int)) := by
      intro b o z
      by_cases hb : b = a
      · rw [if_pos hb] at z
        exact ⟨hb, (Option.some.inj z).symm⟩
      · rw [if_neg hb] at z
        cases z
    refine main (fun b => if b = a then some (.frz { cls := .type "list", data := .seq us.toArray } (.lst (ns.map V.int))) else none) (fun b => ?_) (Or.inl (Or.inr ⟨_, if_pos rfl⟩)) (fun b u z => ?_) (fun b z => ?_) (fun _ => known)
    · by_cases hb : b = a
      · exact Or.inr ⟨_, _, if_pos hb⟩
      · exact Or.inl (if_neg hb)
    · obtain ⟨e1, e2⟩ := at1 z
      subst e1 e2
      exact ⟨atA, by rw [List.length_map]; exact len, us, _, valsA, atA⟩
    · by_cases hb : b = a
      · exact hb
      · exact absurd (if_neg hb) z
theorem walkG {l : PySem.W.OpenLaw} {n k : Nat} {q : Program} {loose : List Str} {XP : (Str → Option Value) → Heap → Prop} {YP : World → Heap → Prop} {d : DefRec} {K : Params → PySem.W.Frag} {sp : World → Sp} {x : Str}
    (most : l.most = some n) (small : n ≤ sizeLine) (plain : d.params.defaults = []) (room : Room k callerA)
    (atK : ∀ (w : World) (h : Heap), YP w h → (K w.params).In h)
    (F : ∀ (w : World) (mg : Str → Option Value) (fa : Addr) (h : Heap), (K w.params).In h → h.Ns mainGlobals mg → mg d.name = some (.ref fa) →
      ∃ fd : FuncData, (∀ (s : Shared) (u : Value), BindsTo s fd ⟨[u], []⟩ [(x, u)]) ∧
        ∀ base : Heap, (K w.params).In base → base.Ns mainGlobals mg → Gk l.prog w (K w.params) mg base k fa fd [x] (sp w))
    (want : ∀ (w : World) (H : Hp) (a : Addr) (ns : List Int), ns.length ≤ n → Only H → SqL (K w.params) H a (ns.map V.int) → sp w [.ref a] H (fun v _ => v = .bl true) fun _ _ _ => False) :
    PySem.W.WalkO q loose XP YP l.row.toRowW d [] (fun f vs => PySem.call f vs) := by
  refine Att.attach_call most plain (fun w s0 st mg mb fa o pm cd doc a us ns G Y hO hD cdo atMg atObj intsA len noGen => ?_)
  have inK := atK w _ Y
  obtain ⟨fd, bind, hF⟩ := F w mg fa _ inK G.T.g atMg
  exact callG inK G.T.g G.T.b G.T.builtins G.T.nolimit noGen atObj intsA (Nat.le_trans len small) room hF bind (fun H hO2 hS => want w H a ns len hO2 hS)
end Vk
namespace Vk
open PySem PySem.Spec PyProof.Rows L2
/-! # Plain data on the heap -/
def KeepT (H H' : Hp) : Prop := ∀ a o, (∃ xs, o = .tup xs ∨ ∃ ob, o = .frz ob (.tup xs)) → H a = some o → H' a = some o
theorem keepT_of {H H' : Hp} (s : Same H H') : KeepT H H' := fun a o _ h => s a o h
theorem KeepT.seq {K : PySem.W.Frag} {H H' : Hp} {a : Addr} {xs : List V} (k : KeepT H H') (h : SqT K H a xs) : SqT K H' a xs := by
  rcases h with (h | ⟨o, h⟩) | h
  · exact .inl (.inl (k _ _ ⟨xs, .inl rfl⟩ h))
  · exact .inl (.inr ⟨o, k _ _ ⟨xs, .inr ⟨o, rfl⟩⟩ h⟩)
  · exact .inr h
theorem KeepT.refl (H : Hp) : KeepT H H := fun _ _ _ h => h
theorem KeepT.trans {H H1 H2 : Hp} (a : KeepT H H1) (b : KeepT H1 H2) : KeepT H H2 := fun c o t h => b c o t (a c o t h)
theorem KeepT.new {H : Hp} {p : Addr} {o : HO} (h : H p = none) : KeepT H (upd H p o) := fun a u _ e => by
  rw [upd_ne (ne_of_none e h)]
  exact e
/-- an object that is no tuple is changed -/
theorem KeepT.put {H : Hp} {p : Addr} {u o : HO} (h : H p = some u) (nt : ∀ xs, u ≠ .tup xs) (nf : ∀ ob xs, u ≠ .frz ob (.tup xs)) : KeepT H (upd H p o) := fun a v t e => by
  have ne : a ≠ p := by
    intro z
    subst z
    rw [h] at e
    cases e
    obtain ⟨ys, t | ⟨ob, t⟩⟩ := t
    · exact nt _ t
    · exact nf _ _ t
  rw [upd_ne ne]
  exact e
theorem KeepT.lst {H : Hp} {p : Addr} {xs : List V} {o : HO} (h : H p = some (.lst xs)) : KeepT H (upd H p o) := KeepT.put h (fun _ z => nomatch z) (fun _ _ z => nomatch z)
theorem KeepT.dK {H : Hp} {p : Addr} {kvs : List (Key × V)} {o : HO} (h : H p = some (.dK kvs)) : KeepT H (upd H p o) := KeepT.put h (fun _ z => nomatch z) (fun _ _ z => nomatch z)
mutual
theorem dp_keep {K : PySem.W.Frag} {H H' : Hp} (k : KeepT H H') : ∀ (d : PyData) (v : V), okD d = true → Dp K H v d → Dp K H' v d
  | .none, _, _, h => by cases h; exact .non
  | .bool b, _, _, h => by cases h; exact .bl b
  | .int i, _, _, h => by cases h; exact .int i
  | .str x, _, _, h => by cases h; exact .str x
  | .list ds, _, n, _ => by simp [okD] at n
  | .dict ds, _, n, _ => by simp [okD] at n
  | .tuple ds, _, n, h => by
    cases h with
    | tup hs ha => exact .tup (k.seq hs) (dp_keepAll k ds _ (by simpa [okD] using n) ha)
theorem dp_keepAll {K : PySem.W.Frag} {H H' : Hp} (k : KeepT H H') : ∀ (ds : List PyData) (vs : List V), okDs ds = true → DpAll K H vs ds → DpAll K H' vs ds
  | [], _, _, h => by cases h; exact .nil
  | d :: ds, _, n, h => by
    have n' : okD d = true ∧ okDs ds = true := by simpa [okDs] using n
    cases h with
    | cons h1 h2 => exact .cons (dp_keep k d _ n'.1 h1) (dp_keepAll k ds _ n'.2 h2)
end
theorem dp_app {K : PySem.W.Frag} {H : Hp} : ∀ {xs ys : List V} {ds es : List PyData}, DpAll K H xs ds → DpAll K H ys es → DpAll K H (xs ++ ys) (ds ++ es)
  | _, _, _, _, .nil, h => h
  | _, _, _, _, .cons a b, h => .cons a (dp_app b h)
theorem dp_len {K : PySem.W.Frag} {H : Hp} : ∀ {xs : List V} {ds : List PyData}, DpAll K H xs ds → xs.length = ds.length
  | _, _, .nil => rfl
  | _, _, .cons _ b => congrArg Nat.succ (dp_len b)
theorem dp_at {K : PySem.W.Frag} {H : Hp} : ∀ {xs : List V} {ds : List PyData} {i : Nat} {d : PyData}, DpAll K H xs ds → ds[i]? = some d → ∃ v, xs[i]? = some v ∧ Dp K H v d
  | _, _, _, _, .nil, h => by simp at h
  | _, _, 0, _, .cons a _, h => by simp at h; subst h; exact ⟨_, rfl, a⟩
  | _, _, i + 1, _, .cons _ b, h => by
    obtain ⟨v, e, q⟩ := dp_at (i := i) b (by simpa using h)
    exact ⟨v, by simpa using e, q⟩
theorem dp_at' {K : PySem.W.Frag} {H : Hp} : ∀ {xs : List V} {ds : List PyData} {i : Nat} {v : V}, DpAll K H xs ds → xs[i]? = some v → ∃ d, ds[i]? = some d ∧ Dp K H v d
  | _, _, _, _, .nil, h => by simp at h
  | _, _, 0, _, .cons a _, h => by simp at h; subst h; exact ⟨_, rfl, a⟩
  | _, _, i + 1, _, .cons _ b, h => by
    obtain ⟨d, e, q⟩ := dp_at' (i := i) b (by simpa using h)
    exact ⟨d, by simpa using e, q⟩
theorem okDs_at : ∀ {ds : List PyData} {i : Nat} {d : PyData}, okDs ds = true → ds[i]? = some d → okD d = true
  | [], _, _, _, h => by simp at h
  | x :: xs, 0, d, o, h => by
    have o' : okD x = true ∧ okDs xs = true := by simpa [okDs] using o
    simp at h; subst h; exact o'.1
  | x :: xs, i + 1, d, o, h => by
    have o' : okD x = true ∧ okDs xs = true := by simpa [okDs] using o
    exact okDs_at (i := i) o'.2 (by simpa using h)
theorem okDs_app : ∀ {ds es : List PyData}, okDs ds = true → okDs es = true → okDs (ds ++ es) = true
  | [], _, _, h => h
  | x :: xs, es, o, h => by
    have o' : okD x = true ∧ okDs xs = true := by simpa [okDs] using o
    simp only [List.cons_append, okDs, o'.1, okDs_app o'.2 h, Bool.and_self]
theorem okDs_all : ∀ {ds : List PyData}, (∀ d ∈ ds, okD d = true) → okDs ds = true
  | [], _ => rfl
  | x :: xs, h => by
    simp only [okDs, h x List.mem_cons_self, okDs_all (ds := xs) fun d hd => h d (List.mem_cons_of_mem _ hd), Bool.and_self]
theorem depth_at : ∀ {ds : List PyData} {i : Nat} {d : PyData}, ds[i]? = some d → d.depth ≤ PyData.depthAll ds
  | [], _, _, h => by simp at h
  | x :: xs, 0, d, h => by
    simp at h; subst h
    simp only [PyData.depthAll]
    omega
  | x :: xs, i + 1, d, h => by
    have z := depth_at (ds := xs) (i := i) (d := d) (by simpa using h)
    simp only [PyData.depthAll]
    omega
/-! ## kinds -/
def tyD : PyData → String
  | .none => "NoneType"
  | .bool _ => "bool"
  | .int _ => "int"
  | .str _ => "str"
  | .tuple _ => "tuple"
  | .list _ => "list"
  | .dict _ => "dict"
theorem sqT_ty {K : PySem.W.Frag} {H : Hp} {a : Addr} {xs : List V} (h : SqT K H a xs) : TyX K H (.ref a) (.type "tuple") := by
  rcases h with (h | ⟨o, h⟩) | ⟨o, its, n, h1, h2, _⟩
  · exact .base (.tup h)
  · exact .fTuple h
  · exact .kTuple h1 h2
theorem dp_ty {K : PySem.W.Frag} {H : Hp} {v : V} {d : PyData} (h : Dp K H v d) (ok : okD d = true) : TyX K H v (.type (tyD d)) := by
  cases h with
  | non => exact .base .non
  | bl b => exact .base (.bl b)
  | int i => exact .base (.int i)
  | str x => exact .base (.str x)
  | lst _ _ => simp [okD] at ok
  | tup hs _ => exact sqT_ty hs
def isTupD : PyData → Bool
  | .tuple _ => true
  | _ => false
def isBoolD : PyData → Bool
  | .bool _ => true
  | _ => false
theorem kit_tup {K : PySem.W.Frag} {d : PyData} (ok : okD d = true) : PySem.W.kitOne K (.type (tyD d)) (.type "tuple") = some (isTupD d) := by
  cases d with
  | none => exact kit_ty (a := "NoneType") (r := false) (by decide +kernel)
  | bool b => exact kit_ty (a := "bool") (r := false) (by decide +kernel)
  | int i => exact kit_ty (a := "int") (r := false) (by decide +kernel)
  | str x => exact kit_ty (a := "str") (r := false) (by decide +kernel)
  | tuple xs => exact kit_ty (a := "tuple") (r := true) (by decide +kernel)
  | list _ => simp [okD] at ok
  | dict _ => simp [okD] at ok
theorem kit_bool {K : PySem.W.Frag} {d : PyData} (ok : okD d = true) : PySem.W.kitOne K (.type (tyD d)) (.type "bool") = some (isBoolD d) := by
  cases d with
  | none => exact kit_ty (a := "NoneType") (r := false) (by decide +kernel)
  | bool b => exact kit_ty (a := "bool") (r := true) (by decide +kernel)
  | int i => exact kit_ty (a := "int") (r := false) (by decide +kernel)
  | str x => exact kit_ty (a := "str") (r := false) (by decide +kernel)
  | tuple xs => exact kit_ty (a := "tuple") (r := false) (by decide +kernel)
  | list _ => simp [okD] at ok
  | dict _ => simp [okD] at ok
/-! ## two values are one -/
mutual
def eqD : PyData → PyData → Bool
  | .none, .none => true
  | .bool a, .bool b => decide (a = b)
  | .int a, .int b => decide (a = b)
  | .str a, .str b => decide (a = b)
  | .tuple xs, .tuple ys => eqDs xs ys
  | _, _ => false
def eqDs : List PyData → List PyData → Bool
  | [], [] => true
  | x :: xs, y :: ys => eqD x y && eqDs xs ys
  | _, _ => false
end
mutual
theorem eqD_iff : ∀ d e : PyData, okD d = true → (eqD d e = true ↔ d = e)
  | .none, e, _ => by cases e <;> simp [eqD]
  | .bool a, e, _ => by cases e <;> simp [eqD]
  | .int a, e, _ => by cases e <;> simp [eqD]
  | .str a, e, _ => by cases e <;> simp [eqD]
  | .tuple xs, e, h => by
    have h' : okDs xs = true := by simpa [okD] using h
    cases e with
    | tuple ys => simp only [eqD, PyData.tuple.injEq]; exact eqDs_iff xs ys h'
    | _ => simp [eqD]
  | .list _, _, h => by simp [okD] at h
  | .dict _, _, h => by simp [okD] at h
theorem eqDs_iff : ∀ xs ys : List PyData, okDs xs = true → (eqDs xs ys = true ↔ xs = ys)
  | [], [], _ => by simp [eqDs]
  | [], _ :: _, _ => by simp [eqDs]
  | _ :: _, [], _ => by simp [eqDs]
  | x :: xs, y :: ys, h => by
    have h' : okD x = true ∧ okDs xs = true := by simpa [okDs] using h
    simp only [eqDs, Bool.and_eq_true, List.cons.injEq, eqD_iff x y h'.1, eqDs_iff xs ys h'.2]
end
theorem eqDs_at : ∀ (xs ys : List PyData), xs.length = ys.length → (eqDs xs ys = true ↔ ∀ (i : Nat) (x y : PyData), xs[i]? = some x → ys[i]? = some y → eqD x y = true)
  | [], [], _ => by simp [eqDs]
  | [], _ :: _, h => by cases h
  | _ :: _, [], h => by cases h
  | x :: xs, y :: ys, h => by
    have ih := eqDs_at xs ys (Nat.succ.inj h)
    simp only [eqDs, Bool.and_eq_true, ih]
    constructor
    · rintro ⟨h1, h2⟩ i a b ha hb
      cases i with
      | zero => simp at ha hb; subst ha hb; exact h1
      | succ i => exact h2 i a b (by simpa using ha) (by simpa using hb)
    · intro h3
      exact ⟨h3 0 x y rfl rfl, fun i a b ha hb => h3 (i + 1) a b (by simpa using ha) (by simpa using hb)⟩
theorem eqDs_len : ∀ (xs ys : List PyData), xs.length ≠ ys.length → eqDs xs ys = false
  | [], [], h => absurd rfl h
  | [], _ :: _, _ => by simp [eqDs]
  | _ :: _, [], _ => by simp [eqDs]
  | x :: xs, y :: ys, h => by
    have ih := eqDs_len xs ys (fun z => h (congrArg Nat.succ z))
    simp [eqDs, ih]
/-! ## lengths of texts -/
theorem enc_one (d : PyData) : (encD (.tuple [d])).length = (encD d).length + 3 := by
  simp only [encD, encDs, joinL, closeL]
  simp
theorem enc_two (d e : PyData) : (encD (.tuple [d, e])).length = (encD d).length + (encD e).length + 4 := by
  simp only [encD, encDs, joinL, closeL]
  simp
  omega
theorem shown_length {d : PyData} (h : okD d = true) : (PyData.shown d).length = (encD d).length := by
  rw [← shown_codes d h]
  show (PyData.shown d).cps.size = _
  simp
theorem intL_len {i : Int} {k : Nat} (hk : 1 ≤ k) (h : i.natAbs < 10 ^ k) : (intL i).length ≤ k + 1 := by
  cases i with
  | ofNat m =>
    unfold intL
    rw [text_ofNat]
    have z := digits10_le hk (n := m) h
    simp
    omega
  | negSucc m =>
    have e : intL (Int.negSucc m) = 45 :: (Nat.toDigits 10 (m + 1)).map Char.toNat := by
      unfold intL
      rw [ofString_codes]
      show ("-" ++ Nat.repr (m + 1)).toList.map Char.toNat = _
      rw [String.toList_append, List.map_append]
      show [45] ++ (Nat.repr (m + 1)).toList.map Char.toNat = _
      have e2 : (Nat.repr (m + 1)).toList = Nat.toDigits 10 (m + 1) := by
        unfold Nat.repr
        exact String.toList_ofList
      rw [e2]
      rfl
    rw [e]
    have z := digits10_le hk (n := m + 1) h
    simp
    omega
theorem int_ok {i : Int} {k : Nat} (h : i.natAbs < 2 ^ k) (hk : k ≤ 1920) (h0 : 0 < k) : okD (.int i) = true := by
  simp only [okD]
  refine decide_eq_true ?_
  by_cases z : i.natAbs = 0
  · rw [z]
    decide
  · exact Nat.lt_of_lt_of_le ((Nat.log2_lt z).mpr h) hk
theorem atI_some {α : Type} {xs : List α} {i : Int} (h0 : 0 ≤ i) (h1 : i < xs.length) : ∃ v, atI xs i = some v ∧ v ∈ xs := by
  have e : i = ((i.toNat : Nat) : Int) := by omega
  have hl : i.toNat < xs.length := by omega
  have z : atI xs ((i.toNat : Nat) : Int) = some xs[i.toNat] := atI_nat (List.getElem?_eq_getElem hl)
  rw [← e] at z
  exact ⟨_, z, List.getElem_mem hl⟩
theorem take_next {α : Type} {l : List α} {i : Nat} {x : α} (h : l[i]? = some x) : l.take (i + 1) = l.take i ++ [x] := by
  rw [List.take_add_one, h]
  rfl
theorem same_new {H : Hp} {p : Addr} {o : HO} (h : H p = none) : Same H (upd H p o) := fun b u e => by
  rw [upd_ne (ne_of_none e h)]
  exact e
theorem ifT {c : Bool} {A B : Prop} (h : c = true) (x : A) : if c = true then A else B := by
  rw [if_pos h]
  exact x
theorem ifF {c : Bool} {A B : Prop} (h : c = false) (x : B) : if c = true then A else B := by
  rw [h, if_neg Bool.false_ne_true]
  exact x
theorem bo_len : bootBuiltins "len" = some (.builtin "len") := by decide +kernel
theorem bo_int : bootBuiltins "int" = some (.type "int") := by decide +kernel
theorem bo_tuple : bootBuiltins "tuple" = some (.type "tuple") := by decide +kernel
theorem bo_list : bootBuiltins "list" = some (.type "list") := by decide +kernel
theorem bo_str : bootBuiltins "str" = some (.type "str") := by decide +kernel
theorem bo_type : bootBuiltins "type" = some (.type "type") := by decide +kernel
theorem bo_isinstance : bootBuiltins "isinstance" = some (.builtin "isinstance") := by decide +kernel
theorem bo_repr : bootBuiltins "repr" = some (.builtin "repr") := by decide +kernel
theorem bo_max : bootBuiltins "max" = some (.builtin "max") := by decide +kernel
theorem bo_min : bootBuiltins "min" = some (.builtin "min") := by decide +kernel
/-- a def that is called: what it promises, where it stands -/
structure Cal (P : Program) (w : World) (K : PySem.W.Frag) (mg : Str → Option Value) (base : Heap) (x : Str) (k : Nat) (f : Addr) (fd : FuncData) (ps : List Str) (sp : Sp) : Prop where
  G : FnOk P w K mg base CX0 k f fd ps sp
  mg : mg x = some (.ref f)
  kp : PySem.W.keepIn K (.ref f) = true
  B : Binds K fd ps []
structure CalG (P : Program) (w : World) (K : PySem.W.Frag) (mg : Str → Option Value) (base : Heap) (x : Str) (k : Nat) (f : Addr) (fd : FuncData) (ps : List Str) (sp : Sp) : Prop where
  G : Gk P w K mg base k f fd ps sp
  mg : mg x = some (.ref f)
  kp : PySem.W.keepIn K (.ref f) = true
  B : Binds K fd ps []
/-- a method that is called -/
structure CalM (P : Program) (w : World) (K : PySem.W.Frag) (mg : Str → Option Value) (base : Heap) (C : Addr) (x : Str) (k : Nat) (f : Addr) (fd : FuncData) (ps : List Str) (sp : Sp) : Prop where
  G : Gk P w K mg base k f fd ps sp
  cl : Cls K C
  mt : Meth K C x f
  B : Binds K fd ps []
end Vk
namespace Vk
open PySem PySem.Spec PyProof.Rows L2
open C8 (pss_cut tCut)
/-! # Kinds of values, by type() -/
section
variable {X : Cx}
@[irreducible] def rTypX (K : PySem.W.Frag) : List V → Hp → VK → Prop := fun xs H Q => (∃ x n, xs = [x] ∧ zTyV x H = some n ∧ Q (.ty n) H) ∨
  (∃ a kvs, xs = [.ref a] ∧ H a = some (.dK kvs) ∧ Q (.ty "dict") H) ∨ (∃ a C dx fs, xs = [V.ref a] ∧ H a = some (.ins C dx fs) ∧ Q (.ref C) H) ∨ ∃ a ys, xs = [V.ref a] ∧ SqT K H a ys ∧ Q (.ty "tuple") H
theorem call_typX : CallR X (.type "type") (rTypX X.K) := by
  intro pins s σ H xs us Q I r h
  unfold rTypX at h
  rcases h with ⟨x, n, rfl, e, q⟩ | ⟨a, kvs, rfl, e, q⟩ | h | ⟨a, ys, rfl, e, q⟩
  · obtain ⟨u, rfl, rx⟩ := vals1 r
    exact rl_type pins s σ H x u Q I rx ⟨n, e, q⟩
  · obtain ⟨u, rfl, rx⟩ := vals1 r
    cases rx
    obtain ⟨_, _, vs, _, o, es, ep, h1, h2, _⟩ := (show ObjOk X.prog X.w H s.heap a (.dK kvs) from I.hok a _ e)
    exact call_type_of (Tx := "dict") ⟨o, h1, h2.1⟩ (by decide +kernel) ⟨.ty "dict", H, I, rfl, q⟩
  · exact cr_type pins s σ H xs us Q I r h
  · obtain ⟨u, rfl, rx⟩ := vals1 r
    cases rx
    obtain ⟨its, rv, p, _⟩ := I.tuple e
    exact call_type_of (Tx := "tuple") p.typeIs (by decide +kernel) ⟨.ty "tuple", H, I, rfl, q⟩
theorem typ_go {K : PySem.W.Frag} {H : Hp} {Q : VK} {x : V} {n : String} (e : zTyV x H = some n) (q : Q (.ty n) H) : rTypX K [x] H Q := by
  unfold rTypX
  exact .inl ⟨x, n, rfl, e, q⟩
theorem typ_goD {K : PySem.W.Frag} {H : Hp} {Q : VK} {a : Addr} {kvs : List (L2.Key × V)} (e : H a = some (.dK kvs)) (q : Q (.ty "dict") H) : rTypX K [.ref a] H Q := by
  unfold rTypX
  exact .inr (.inl ⟨a, kvs, rfl, e, q⟩)
theorem typ_goI {K : PySem.W.Frag} {H : Hp} {Q : VK} {a C dx : Addr} {fs : List (Str × V)} (e : H a = some (.ins C dx fs)) (q : Q (.ref C) H) : rTypX K [.ref a] H Q := by
  unfold rTypX
  exact .inr (.inr (.inl ⟨a, C, dx, fs, rfl, e, q⟩))
theorem typ_goT {K : PySem.W.Frag} {H : Hp} {Q : VK} {a : Addr} {ys : List V} (e : SqT K H a ys) (q : Q (.ty "tuple") H) : rTypX K [.ref a] H Q := by
  unfold rTypX
  exact .inr (.inr (.inr ⟨a, ys, rfl, e, q⟩))
/-- is, between classes: two built-in ones, or an own one and a built-in one -/
def rIsTyX : R2 := fun x y H Q => (∃ m n, x = .ty m ∧ y = .ty n ∧ Q (.bl (decide (m = n))) H) ∨ ∃ C n, x = .ref C ∧ y = .ty n ∧ Q (.bl false) H
theorem op_isTyX : OpR X (compareOp .Is) rIsTyX := by
  intro pins s σ H x y v u Q I rx ry h
  rcases h with h | ⟨C, n, rfl, rfl, q⟩
  · exact op_isTy pins s σ H x y v u Q I rx ry h
  · cases rx
    cases ry
    exact wpAny_is_other rfl (fun z => nomatch z) ⟨.bl false, H, I, rfl, q⟩
end
end Vk
namespace Vk
open PySem PySem.Spec PyProof.Rows L2
/-! # match over plain values: tuples by their length and words, names for the parts -/
abbrev Caught := List (Str × Value)
/-- what a pattern reads of a value: nothing fits, or the parts that get names -/
abbrev TPt := V → Hp → (Option (List V) → Hp → Prop) → Prop
abbrev TPs := List V → Hp → (Option (List V) → Hp → Prop) → Prop
def Fits (X : Cx) (pins : List (Addr × Obj)) (σ : L2.St) (ns : List Str) (Q : Option (List V) → Hp → Prop) (r : Option Caught) (s : Shared) : Prop :=
  ∃ H, Inv X pins σ H s ∧ ((r = none ∧ Q none H) ∨ ∃ bs vs, r = some bs ∧ bs.map (·.1) = ns ∧ Vals vs (bs.map (·.2)) ∧ Q (some vs) H)
structure PPt (X : Cx) (p : Pattern) (ns : List Str) (t : TPt) : Prop where
  run : ∀ (pins : List (Addr × Obj)) (s : Shared) (σ : L2.St) (H : Hp) (v : V) (u : Value) (Q : Option (List V) → Hp → Prop), Inv X pins σ H s → RelV v u → t v H Q →
    wpAny (model X.prog X.w) X.A (matchPattern p X.env u) (Fits X pins σ ns Q) X.xe s
structure PPs (X : Cx) (ps : List Pattern) (ns : List Str) (t : TPs) : Prop where
  run : ∀ (pins : List (Addr × Obj)) (s : Shared) (σ : L2.St) (H : Hp) (vs : List V) (us : List Value) (Q : Option (List V) → Hp → Prop), Inv X pins σ H s → Vals vs us → t vs H Q →
    wpAny (model X.prog X.w) X.A (matchEach ps X.env us) (Fits X pins σ ns Q) X.xe s
structure PB (X : Cx) (ns : List Str) (t : TGs) : Prop where
  run : ∀ (pins : List (Addr × Obj)) (s : Shared) (σ : L2.St) (H : Hp) (vs : List V) (us : List Value) (Q : L2.St → Hp → Prop), Inv X pins σ H s → Vals vs us → t vs σ H Q →
    wpAny (model X.prog X.w) X.A (assignInOrder (ns.map fun n => bindName X.env n) us) (fun _ s' => ∃ σ' H', Inv X pins σ' H' s' ∧ Q σ' H') X.xe s
structure PCs (X : Cx) (cs : List MatchCase) (t : V → TS) : Prop where
  run : ∀ (pins : List (Addr × Obj)) (s : Shared) (σ : L2.St) (H : Hp) (v : V) (u : Value) (first : Bool) (D : Ends), Inv X pins σ H s → RelV v u → t v D σ H →
    wpAny (model X.prog X.w) X.A (matchCases cs X.env u first) (SP X pins D) X.xe s
section
variable {X : Cx}
/-! ## patterns -/
def tPName : TPt := fun v H Q => Q (some [v]) H
def tPAny : TPt := fun _ H Q => Q (some []) H
def tPLit (r : R2) (y : V) : TPt := fun v H Q => r v y H fun b H1 => ∃ c, b = .bl c ∧ Q (if c = true then some [] else none) H1
theorem ppt_name {n : Str} {pos : Pos} : PPt X (.MatchAs none (some n) pos) [n] tPName := by
  refine ⟨fun pins s σ H v u Q I r h => ?_⟩
  exact wpAny_matchPattern_Capture ⟨H, I, .inr ⟨[(n, u)], [v], rfl, rfl, .cons r .nil, h⟩⟩
theorem ppt_any {pos : Pos} : PPt X (.MatchAs none none pos) [] tPAny := by
  refine ⟨fun pins s σ H v u Q I r h => ?_⟩
  exact wpAny_matchPattern_Capture ⟨H, I, .inr ⟨[], [], rfl, rfl, .nil, h⟩⟩
theorem ppt_lit {e : Expr} {y : V} {r : R2} {pos : Pos} (he : PE X e (tC y)) (op : OpR X (compareOp .Eq) r) : PPt X (.MatchValue e pos) [] (tPLit r y) := by
  refine ⟨fun pins s σ H v u Q I rv h => ?_⟩
  refine wpAny_matchPattern_Value (thn (he.run pins s σ H (fun y' H' => y' = y ∧ H' = H) I ⟨rfl, rfl⟩) fun w s1 h1 => ?_)
  obtain ⟨y', H1, I1, r1, rfl, rfl⟩ := h1
  refine thn (op pins s1 σ H1 v y' u w _ I1 rv r1 h) fun b s2 h2 => ?_
  obtain ⟨b', H2, I2, r2, c, rfl, q⟩ := h2
  cases (show b = Value.bool c from r2)
  refine wpAny_truthy_bool ?_
  cases c with
  | true => exact ⟨H2, I2, .inr ⟨[], [], rfl, rfl, .nil, q⟩⟩
  | false => exact ⟨H2, I2, .inl ⟨rfl, q⟩⟩
def tPNil : TPs := fun vs H Q => vs = [] ∧ Q (some []) H
def tPCons (t : TPt) (u : TPs) : TPs := fun vs H Q => ∃ v r, vs = v :: r ∧ t v H fun o H1 => match o with
  | none => Q none H1
  | some ws => u r H1 fun o2 H2 => match o2 with
    | none => Q none H2
    | some zs => Q (some (ws ++ zs)) H2
theorem vals_app {xs ys : List V} {us ws : List Value} (h : Vals xs us) (k : Vals ys ws) : Vals (xs ++ ys) (us ++ ws) := by
  induction h with
  | nil => exact k
  | cons a _ ih => exact .cons a ih
theorem pps_nil : PPs X [] [] tPNil := by
  refine ⟨fun pins s σ H vs us Q I r h => ?_⟩
  obtain ⟨rfl, q⟩ := h
  cases r
  exact wpAny_matchEach_nil ⟨H, I, .inr ⟨[], [], rfl, rfl, .nil, q⟩⟩
theorem pps_cons {p : Pattern} {ps : List Pattern} {ns ms : List Str} {t : TPt} {u : TPs} (h1 : PPt X p ns t) (h2 : PPs X ps ms u) (hp : p.isStar = false := by rfl) : PPs X (p :: ps) (ns ++ ms) (tPCons t u) := by
  refine ⟨fun pins s σ H vs us Q I r h => ?_⟩
  obtain ⟨v, rest, rfl, h⟩ := h
  cases r with
  | cons rv rr =>
    refine wpAny_matchEach_cons (thn (h1.run pins s σ H v _ _ I rv h) fun o s1 ho => ?_) hp
    obtain ⟨H1, I1, ho⟩ := ho
    rcases ho with ⟨rfl, q⟩ | ⟨bs, ws, rfl, e, rw_, q⟩
    · exact ⟨H1, I1, .inl ⟨rfl, q⟩⟩
    · refine thn (h2.run pins s1 σ H1 rest _ _ I1 rr q) fun o2 s2 ho2 => ?_
      obtain ⟨H2, I2, ho2⟩ := ho2
      rcases ho2 with ⟨rfl, q2⟩ | ⟨cs, zs, rfl, e2, rz, q2⟩
      · exact ⟨H2, I2, .inl ⟨rfl, q2⟩⟩
      · exact ⟨H2, I2, .inr ⟨bs ++ cs, ws ++ zs, rfl, by rw [List.map_append, e, e2], by rw [List.map_append]; exact vals_app rw_ rz, q2⟩⟩
/-! ## names -/
theorem pb_nil : PB X [] gNil := by
  refine ⟨fun pins s σ H vs us Q I r h => ?_⟩
  obtain ⟨rfl, q⟩ := h
  cases r
  exact wpAny_assignInOrder_none ⟨σ, H, I, q⟩
theorem pb_cons {i : Nat} {n : Str} {ns : List Str} {t : TGs} (hN : X.N.Nodup) (hi : X.N[i]? = some n) (hx : Loc X.env.scope n) (hf : X.fn n = true ∨ X.env.scope.names.lookup n = some .local := by first | exact .inl rfl | exact .inr rfl | assumption) (h : PB X ns t) :
    PB X (n :: ns) (gCons (gName i) t) := by
  refine ⟨fun pins s σ H vs us Q I r hw => ?_⟩
  obtain ⟨v, rest, rfl, hw⟩ := hw
  cases r with
  | cons rv rr =>
    exact wpAny_assignInOrder_more (wpAny_bindName (store_ok I hN hi hx rv (fun s' I' => h.run pins s' _ H rest _ Q I' rr hw) hf))
/-! ## cases -/
theorem pcs_nil : PCs X [] (fun _ D σ H => D.nx σ H) := by
  refine ⟨fun pins s σ H v u first D I r h => ?_⟩
  exact wpAny_matchCases_nil ⟨σ, H, I, h⟩
/-- case _: -/
theorem pcs_any {body : List Stmt} {rest : List MatchCase} {tb : TS} {pos : Pos} (hb : PSs X body tb) : PCs X (⟨.MatchAs none none pos, none, body⟩ :: rest) (fun _ => tb) := by
  refine ⟨fun pins s σ H v u first D I r h => ?_⟩
  refine wpAny_matchCases_cons (wpAny_matchPattern_Capture ?_)
  exact wpAny_assignInOrder_none (hb.run pins s σ H D I h)
/-- a value that is no tuple, no list -/
def NoSeq : V → Prop
  | .non => True
  | .bl _ => True
  | .int _ => True
  | .str _ => True
  | _ => False
/-- case (p, ..): over a tuple or what is none -/
def tCase (K : PySem.W.Frag) (n : Nat) (tp : TPs) (tg : TGs) (tb : TS) (tr : V → TS) : V → TS := fun v D σ H =>
  (NoSeq v ∧ tr v D σ H) ∨ ∃ a vs, v = .ref a ∧ SqT K H a vs ∧ (¬ vs.length = n → tr v D σ H) ∧
    (vs.length = n → tp vs H fun o H1 => match o with
      | none => tr v D σ H1
      | some ws => tg ws σ H1 fun σ2 H2 => tb D σ2 H2)
theorem pcs_seq {ps : List Pattern} {ns : List Str} {body : List Stmt} {rest : List MatchCase} {tp : TPs} {tg : TGs} {tb : TS} {tr : V → TS} {pos : Pos} {n : Nat} (hc : X.calm = true) (hp : PPs X ps ns tp) (hg : PB X ns tg) (hb : PSs X body tb) (hr : PCs X rest tr)
    (hn : ps.length = n := by rfl) (hstar : ps.findIdx? (·.isStar) = none := by rfl) (hwild : (ps.all fun p => p.isWildcard || (p.isStar && p.names.isEmpty)) = false := by rfl) :
    PCs X (⟨.MatchSequence ps pos, none, body⟩ :: rest) (tCase X.K n tp tg tb tr) := by
  refine ⟨fun pins s σ H v u first D I r h => ?_⟩
  refine wpAny_matchCases_cons ?_
  rcases h with ⟨hv, q⟩ | ⟨a, vs, rfl, hq, miss, hit⟩
  · have flag : ∀ {T : String}, s.TypeIs u T → flagOfType true (.type T) = pure false → wpAny (model X.prog X.w) X.A (matchPattern (.MatchSequence ps pos) X.env u) (fun r s₁ => r = none ∧ s₁ = s) X.xe s := fun ht hf => by
      refine wpAny_matchPattern_Sequence (wpAny_collectionFlag ht hf ?_) hstar hwild
      exact ⟨rfl, rfl⟩
    have go : wpAny (model X.prog X.w) X.A (matchPattern (.MatchSequence ps pos) X.env u) (fun r s₁ => r = none ∧ s₁ = s) X.xe s := by
      cases v with
      | non => cases (show u = Value.none from r); exact flag (T := "NoneType") rfl flag_seq_None
      | bl b => cases (show u = Value.bool b from r); exact flag (T := "bool") rfl flag_seq_bool
      | int i => obtain ⟨t, rfl⟩ := (show ∃ t, u = Value.int i t from r); exact flag (T := "int") rfl flag_seq_int
      | str x => obtain ⟨t, rfl⟩ := (show ∃ t, u = Value.str x t from r); exact flag (T := "str") rfl flag_seq_str
      | byt b => exact hv.elim
      | flt b => exact hv.elim
      | ty b => exact hv.elim
      | ref b => exact hv.elim
    refine thn go fun o s1 ho => ?_
    obtain ⟨rfl, rfl⟩ := ho
    exact hr.run pins s1 σ H v u false D I r q
  · cases r
    obtain ⟨its, rv, ht, hz⟩ := I.tuple hq
    have le : (its.toArray.size : Int) < 2 ^ 63 := by
      have e0 : (sizeLine : Nat) = 16777216 := by decide +kernel
      have := rv.length
      simp only [List.size_toArray]
      omega
    have ln : its.toArray.size = vs.length := by
      rw [List.size_toArray]
      exact rv.length.symm
    by_cases c : vs.length = n
    · refine matchSeq_tuple_hit ht le (by rw [ln, c, hn]) ?_ hstar hwild
      have I0 : Inv X pins σ H { s with toks := s.toks + 1 + 1 } := I.tok _
      have e1 : ps.length = its.toArray.size := by rw [ln, c, hn]
      rw [e1]
      refine unpackItems_tuple (I.ok.hd hc) ht fun h' hx => ?_
      have I1 : Inv X pins σ H { s with toks := s.toks + 1 + 1, heap := h' } := I0.kept (t' := s.toks + 1 + 1) fun b o e => hx b o (Nat.ne_of_lt (Heap.lt_size e)) e
      refine thn (hp.run pins _ σ H vs its _ I1 rv (hit c)) fun o s1 ho => ?_
      obtain ⟨H1, I2, ho⟩ := ho
      rcases ho with ⟨rfl, q⟩ | ⟨bs, ws, rfl, e, rw_, q⟩
      · exact hr.run pins s1 σ H1 (.ref a) _ false D I2 rfl q
      · have em : (bs.map fun (n, _) => bindName X.env n) = ns.map fun n => bindName X.env n := by
          rw [← e, List.map_map]
          rfl
        show wpAny _ _ (assignInOrder (bs.map fun (n, _) => bindName X.env n) (bs.map (·.2))) _ _ _
        rw [em]
        refine thn (hg.run pins s1 σ H1 ws _ _ I2 rw_ q) fun _ s2 h2 => ?_
        obtain ⟨σ2, H2, I3, q2⟩ := h2
        exact hb.run pins s2 σ2 H2 D I3 q2
    · refine matchSeq_tuple_miss ht le (by rw [ln, hn]; exact c) ?_ hstar hwild
      exact hr.run pins _ σ H (.ref a) _ false D (I.tok _) rfl (miss c)
/-- match e: cases -/
def tMatch (te : TE) (tc : V → TS) : TS := fun D σ H => te σ H fun v H1 => tc v D σ H1
theorem ps_match {e : Expr} {cs : List MatchCase} {te : TE} {tc : V → TS} {pos : Pos} (he : PE X e te) (hc : PCs X cs tc) : PS X (.Match e cs pos) (tMatch te tc) := by
  refine ⟨fun pins s σ H D I h => ?_⟩
  refine wpAny_Match (thn (he.run pins s σ H _ I h) fun u s1 h1 => ?_)
  obtain ⟨v, H1, I1, r1, q⟩ := h1
  exact hc.run pins s1 σ H1 v u true D I1 r1 q
end
end Vk
set_option linter.unusedVariables false
namespace Vk
open PySem PySem.Spec PyProof.Rows L2
/-! # The data layer: values as data, objects by a state; what a piece of code asks is a function of both -/
inductive Dv where
  | non
  | bl (b : Bool)
  | int (i : Int)
  | str (x : Str)
  | tup (ds : List Dv)
  | lst (ds : List Dv)
  | scr (ns : List Int)
  | ref (a : Addr)
  | ty (n : String)
mutual
inductive RD (K : PySem.W.Frag) (G : Hp) : V → Dv → Prop
  | non : RD K G .non .non
  | bl (b : Bool) : RD K G (.bl b) (.bl b)
  | int (i : Int) : RD K G (.int i) (.int i)
  | str (x : Str) : RD K G (.str x) (.str x)
  | tup {a : Addr} {vs : List V} {ds : List Dv} : SqT K G a vs → RDs K G vs ds → RD K G (.ref a) (.tup ds)
  | lst {a : Addr} {vs : List V} {ds : List Dv} : G a = some (.lst vs) → RDs K G vs ds → RD K G (.ref a) (.lst ds)
  | scr {a : Addr} {ns : List Int} : SqL K G a (ns.map V.int) → RD K G (.ref a) (.scr ns)
  | ref (a : Addr) : RD K G (.ref a) (.ref a)
  | ty (n : String) : RD K G (.ty n) (.ty n)
inductive RDs (K : PySem.W.Frag) (G : Hp) : List V → List Dv → Prop
  | nil : RDs K G [] []
  | cons {v : V} {d : Dv} {vs : List V} {ds : List Dv} : RD K G v d → RDs K G vs ds → RDs K G (v :: vs) (d :: ds)
end
theorem sqL_same {K : PySem.W.Frag} {G G' : Hp} {a : Addr} {xs : List V} (s : Same G G') (h : SqL K G a xs) : SqL K G' a xs := by
  rcases h with (h | ⟨o, h⟩) | h
  · exact .inl (.inl (s _ _ h))
  · exact .inl (.inr ⟨o, s _ _ h⟩)
  · exact .inr h
theorem sqT_same {K : PySem.W.Frag} {G G' : Hp} {a : Addr} {xs : List V} (s : Same G G') (h : SqT K G a xs) : SqT K G' a xs := (keepT_of s).seq h
mutual
theorem RD.same {K : PySem.W.Frag} {G G' : Hp} (s : Same G G') : ∀ (d : Dv) (v : V), RD K G v d → RD K G' v d
  | .non, _, h => by cases h; exact .non
  | .bl b, _, h => by cases h; exact .bl b
  | .int i, _, h => by cases h; exact .int i
  | .str x, _, h => by cases h; exact .str x
  | .tup ds, _, h => by
    cases h with
    | tup a b => exact .tup (sqT_same s a) (RDs.same s ds _ b)
  | .lst ds, _, h => by
    cases h with
    | lst a b => exact .lst (s _ _ a) (RDs.same s ds _ b)
  | .scr ns, _, h => by
    cases h with
    | scr a => exact .scr (sqL_same s a)
  | .ref a, _, h => by cases h; exact .ref a
  | .ty n, _, h => by cases h; exact .ty n
theorem RDs.same {K : PySem.W.Frag} {G G' : Hp} (s : Same G G') : ∀ (ds : List Dv) (vs : List V), RDs K G vs ds → RDs K G' vs ds
  | [], _, h => by cases h; exact .nil
  | d :: ds, _, h => by
    cases h with
    | cons a b => exact .cons (RD.same s d _ a) (RDs.same s ds _ b)
end
theorem RDs.len {K : PySem.W.Frag} {G : Hp} : ∀ {vs : List V} {ds : List Dv}, RDs K G vs ds → vs.length = ds.length
  | _, _, .nil => rfl
  | _, _, .cons _ b => congrArg Nat.succ (RDs.len b)
theorem RDs.app {K : PySem.W.Frag} {G : Hp} : ∀ {vs ws : List V} {ds es : List Dv}, RDs K G vs ds → RDs K G ws es → RDs K G (vs ++ ws) (ds ++ es)
  | _, _, _, _, .nil, h => h
  | _, _, _, _, .cons a b, h => .cons a (RDs.app b h)
theorem RDs.take {K : PySem.W.Frag} {G : Hp} : ∀ {vs : List V} {ds : List Dv} (n : Nat), RDs K G vs ds → RDs K G (vs.take n) (ds.take n)
  | _, _, 0, _ => .nil
  | _, _, _ + 1, .nil => .nil
  | _, _, n + 1, .cons a b => .cons a (RDs.take n b)
theorem RDs.drop {K : PySem.W.Frag} {G : Hp} : ∀ {vs : List V} {ds : List Dv} (n : Nat), RDs K G vs ds → RDs K G (vs.drop n) (ds.drop n)
  | _, _, 0, h => h
  | _, _, _ + 1, .nil => .nil
  | _, _, n + 1, .cons _ b => RDs.drop n b
theorem RDs.at {K : PySem.W.Frag} {G : Hp} : ∀ {vs : List V} {ds : List Dv} {i : Nat} {d : Dv}, RDs K G vs ds → ds[i]? = some d → ∃ v, vs[i]? = some v ∧ RD K G v d
  | _, _, _, _, .nil, h => by simp at h
  | _, _, 0, _, .cons a _, h => by simp at h; subst h; exact ⟨_, rfl, a⟩
  | _, _, i + 1, _, .cons _ b, h => by
    obtain ⟨v, e, q⟩ := RDs.at (i := i) b (by simpa using h)
    exact ⟨v, by simpa using e, q⟩
theorem RDs.at' {K : PySem.W.Frag} {G : Hp} : ∀ {vs : List V} {ds : List Dv} {i : Nat} {v : V}, RDs K G vs ds → vs[i]? = some v → ∃ d, ds[i]? = some d ∧ RD K G v d
  | _, _, _, _, .nil, h => by simp at h
  | _, _, 0, _, .cons a _, h => by simp at h; subst h; exact ⟨_, rfl, a⟩
  | _, _, i + 1, _, .cons _ b, h => by
    obtain ⟨d, e, q⟩ := RDs.at' (i := i) b (by simpa using h)
    exact ⟨d, by simpa using e, q⟩
theorem RDs.rep {K : PySem.W.Frag} {G : Hp} {vs : List V} {ds : List Dv} (h : RDs K G vs ds) : ∀ n : Nat, RDs K G (List.replicate n vs).flatten (List.replicate n ds).flatten
  | 0 => .nil
  | n + 1 => by
    rw [List.replicate_succ, List.replicate_succ, List.flatten_cons, List.flatten_cons]
    exact RDs.app h (RDs.rep h n)
/-! ## objects that code changes -/
inductive MO where
  | lst (ds : List Dv)
  | dK (kds : List (L2.Key × Dv))
  | ins (C dx : Addr) (fs : List (Str × Dv))
  | own (x : Addr)
abbrev MH := Addr → Option MO
def mup (M : MH) (a : Addr) (o : MO) : MH := fun b => if b = a then some o else M b
def mdel (M : MH) (a : Addr) : MH := fun b => if b = a then none else M b
@[simp] theorem mup_same {M : MH} {a : Addr} {o : MO} : mup M a o a = some o := by unfold mup; rw [if_pos rfl]
theorem mup_ne {M : MH} {a b : Addr} {o : MO} (h : b ≠ a) : mup M a o b = M b := by unfold mup; rw [if_neg h]
@[simp] theorem mup_mup {M : MH} {a : Addr} {o u : MO} : mup (mup M a o) a u = mup M a u := by
  funext b; unfold mup; split <;> rfl
def hid (S : Addr → Bool) (M : MH) (H : Hp) : Hp := fun a => if S a || (M a).isSome then none else H a
inductive RKV {κ : Type} (K : PySem.W.Frag) (G : Hp) : List (κ × V) → List (κ × Dv) → Prop
  | nil : RKV K G [] []
  | cons {k : κ} {v : V} {d : Dv} {kvs : List (κ × V)} {kds : List (κ × Dv)} : RD K G v d → RKV K G kvs kds → RKV K G ((k, v) :: kvs) ((k, d) :: kds)
theorem RKV.same {κ : Type} {K : PySem.W.Frag} {G G' : Hp} (s : Same G G') : ∀ {kvs : List (κ × V)} {kds : List (κ × Dv)}, RKV K G kvs kds → RKV K G' kvs kds
  | _, _, .nil => .nil
  | _, _, .cons a b => .cons (RD.same s _ _ a) (RKV.same s b)
inductive MR (K : PySem.W.Frag) (G : Hp) : MO → HO → Prop
  | lst {ds : List Dv} {vs : List V} : RDs K G vs ds → MR K G (.lst ds) (.lst vs)
  | dK {kds : List (L2.Key × Dv)} {kvs : List (L2.Key × V)} : RKV K G kvs kds → MR K G (.dK kds) (.dK kvs)
  | ins {C dx : Addr} {fs : List (Str × V)} {gs : List (Str × Dv)} : RKV K G fs gs → MR K G (.ins C dx gs) (.ins C dx fs)
  | own (x : Addr) : MR K G (.own x) (.own x)
theorem MR.same {K : PySem.W.Frag} {G G' : Hp} (s : Same G G') {o : MO} {u : HO} (h : MR K G o u) : MR K G' o u := by
  cases h with
  | lst a => exact .lst (RDs.same s _ _ a)
  | dK a => exact .dK (RKV.same s a)
  | ins a => exact .ins (RKV.same s a)
  | own x => exact .own x
structure HR (K : PySem.W.Frag) (S : Addr → Bool) (M : MH) (H : Hp) : Prop where
  obj : ∀ a o, M a = some o → ∃ u, H a = some u ∧ MR K (hid S M H) o u
  apart : ∀ a, S a = true → M a = none ∧ H a ≠ none
structure Gr (S : Addr → Bool) (M : MH) (H : Hp) (M' : MH) (H' : Hp) : Prop where
  same : Same (hid S M H) (hid S M' H')
  hold : ∀ a, S a = true → H' a = H a
theorem Gr.refl {S : Addr → Bool} {M : MH} {H : Hp} : Gr S M H M H := ⟨Same.refl _, fun _ _ => rfl⟩
theorem Gr.trans {S : Addr → Bool} {M M1 M2 : MH} {H H1 H2 : Hp} (a : Gr S M H M1 H1) (b : Gr S M1 H1 M2 H2) : Gr S M H M2 H2 :=
  ⟨a.same.trans b.same, fun c h => (b.hold c h).trans (a.hold c h)⟩
theorem hid_some {S : Addr → Bool} {M : MH} {H : Hp} {a : Addr} {u : HO} (h : hid S M H a = some u) : H a = some u ∧ S a = false ∧ M a = none := by
  unfold hid at h
  split at h
  · cases h
  · rename_i n
    simp only [Bool.or_eq_true, not_or, Bool.not_eq_true] at n
    refine ⟨h, n.1, ?_⟩
    cases e : M a with
    | none => rfl
    | some o => rw [e] at n; exact absurd n.2 (by simp)
theorem hid_of {S : Addr → Bool} {M : MH} {H : Hp} {a : Addr} (h1 : S a = false) (h2 : M a = none) : hid S M H a = H a := by
  unfold hid
  rw [h1, h2]
  rfl
theorem HR.fresh {K : PySem.W.Frag} {S : Addr → Bool} {M : MH} {H : Hp} (h : HR K S M H) {p : Addr} (hp : H p = none) : S p = false ∧ M p = none := by
  constructor
  · cases e : S p with
    | false => rfl
    | true => exact absurd hp (h.apart p e).2
  · cases e : M p with
    | none => rfl
    | some o =>
      obtain ⟨u, z, _⟩ := h.obj p o e
      rw [hp] at z
      cases z
/-- a new thing that does not change -/
theorem HR.new {K : PySem.W.Frag} {S : Addr → Bool} {M : MH} {H : Hp} (h : HR K S M H) {p : Addr} (hp : H p = none) (o : HO) : Gr S M H M (upd H p o) ∧ HR K S M (upd H p o) ∧ hid S M (upd H p o) p = some o := by
  obtain ⟨e1, e2⟩ := h.fresh hp
  have g : Gr S M H M (upd H p o) := by
    refine ⟨fun b u z => ?_, fun a ha => ?_⟩
    · obtain ⟨z1, z2, z3⟩ := hid_some z
      rw [hid_of z2 z3, upd_ne (ne_of_none z1 hp)]
      exact z1
    · exact upd_ne (fun z => by subst z; rw [e1] at ha; cases ha)
  refine ⟨g, ⟨fun a m z => ?_, fun a ha => ?_⟩, by rw [hid_of e1 e2, upd_same]⟩
  · obtain ⟨u, z1, z2⟩ := h.obj a m z
    exact ⟨u, by rw [upd_ne (ne_of_none z1 hp)]; exact z1, z2.same g.same⟩
  · obtain ⟨z1, z2⟩ := h.apart a ha
    exact ⟨z1, by rw [g.hold a ha]; exact z2⟩
/-- a new object that is tracked from now on -/
theorem HR.newM {K : PySem.W.Frag} {S : Addr → Bool} {M : MH} {H : Hp} (h : HR K S M H) {p : Addr} (hp : H p = none) {m : MO} {o : HO} (r : MR K (hid S M H) m o) : Gr S M H (mup M p m) (upd H p o) ∧ HR K S (mup M p m) (upd H p o) := by
  obtain ⟨e1, e2⟩ := h.fresh hp
  have g : Gr S M H (mup M p m) (upd H p o) := by
    refine ⟨fun b u z => ?_, fun a ha => ?_⟩
    · obtain ⟨z1, z2, z3⟩ := hid_some z
      have n := ne_of_none z1 hp
      rw [hid_of z2 (by rw [mup_ne n]; exact z3), upd_ne n]
      exact z1
    · exact upd_ne (fun z => by subst z; rw [e1] at ha; cases ha)
  refine ⟨g, ⟨fun a q z => ?_, fun a ha => ?_⟩⟩
  · by_cases c : a = p
    · subst c
      rw [mup_same] at z
      cases z
      exact ⟨o, upd_same, r.same g.same⟩
    · rw [mup_ne c] at z
      obtain ⟨u, z1, z2⟩ := h.obj a q z
      exact ⟨u, by rw [upd_ne c]; exact z1, z2.same g.same⟩
  · obtain ⟨z1, z2⟩ := h.apart a ha
    have n : a ≠ p := fun z => by subst z; rw [e1] at ha; cases ha
    exact ⟨by rw [mup_ne n]; exact z1, by rw [g.hold a ha]; exact z2⟩
/-- a tracked object is changed -/
theorem HR.put {K : PySem.W.Frag} {S : Addr → Bool} {M : MH} {H : Hp} (h : HR K S M H) {p : Addr} {m0 m : MO} {o : HO} (hp : M p = some m0) (r : MR K (hid S M H) m o) : Gr S M H (mup M p m) (upd H p o) ∧ HR K S (mup M p m) (upd H p o) := by
  have e1 : S p = false := by
    cases e : S p with
    | false => rfl
    | true => have := (h.apart p e).1; rw [hp] at this; cases this
  have same : hid S (mup M p m) (upd H p o) = hid S M H := by
    funext b
    by_cases c : b = p
    · subst c
      unfold hid
      rw [mup_same, hp]
      simp
    · unfold hid
      rw [mup_ne c, upd_ne c]
  have g : Gr S M H (mup M p m) (upd H p o) := by
    refine ⟨by rw [same]; exact Same.refl _, fun a ha => ?_⟩
    exact upd_ne (fun z => by subst z; rw [e1] at ha; cases ha)
  refine ⟨g, ⟨fun a q z => ?_, fun a ha => ?_⟩⟩
  · rw [same]
    by_cases c : a = p
    · subst c
      rw [mup_same] at z
      cases z
      exact ⟨o, upd_same, r⟩
    · rw [mup_ne c] at z
      obtain ⟨u, z1, z2⟩ := h.obj a q z
      exact ⟨u, by rw [upd_ne c]; exact z1, z2⟩
  · obtain ⟨z1, z2⟩ := h.apart a ha
    have n : a ≠ p := fun z => by subst z; rw [e1] at ha; cases ha
    exact ⟨by rw [mup_ne n]; exact z1, by rw [g.hold a ha]; exact z2⟩
/-- a tracked list that does not change any more -/
theorem HR.freeze {K : PySem.W.Frag} {S : Addr → Bool} {M : MH} {H : Hp} (h : HR K S M H) {p : Addr} {ds : List Dv} (hp : M p = some (.lst ds)) : Gr S M H (mdel M p) H ∧ HR K S (mdel M p) H ∧ RD K (hid S (mdel M p) H) (.ref p) (.lst ds) := by
  obtain ⟨u, z1, z2⟩ := h.obj p _ hp
  have e1 : S p = false := by
    cases e : S p with
    | false => rfl
    | true => have := (h.apart p e).1; rw [hp] at this; cases this
  have e2 : mdel M p p = none := by unfold mdel; rw [if_pos rfl]
  have g : Gr S M H (mdel M p) H := by
    refine ⟨fun b w z => ?_, fun _ _ => rfl⟩
    obtain ⟨y1, y2, y3⟩ := hid_some z
    rw [hid_of y2 (by unfold mdel; split; rfl; exact y3)]
    exact y1
  refine ⟨g, ⟨fun a q z => ?_, fun a ha => ?_⟩, ?_⟩
  · have n : M a = some q := by
      unfold mdel at z
      split at z
      · cases z
      · exact z
    obtain ⟨w, y1, y2⟩ := h.obj a q n
    exact ⟨w, y1, y2.same g.same⟩
  · obtain ⟨y1, y2⟩ := h.apart a ha
    exact ⟨by unfold mdel; split; rfl; exact y1, y2⟩
  · cases z2 with
    | lst r => exact .lst (by rw [hid_of e1 e2]; exact z1) (RDs.same g.same _ _ r)
/-! ## what code asks, as functions of the names' data and the state -/
abbrev DEnv := List (Option Dv)
abbrev DK := Dv → MH → Prop
abbrev DE := DEnv → MH → DK → Prop
abbrev DT := DEnv → MH → (Bool → MH → Prop) → Prop
abbrev DA := DEnv → MH → (List Dv → MH → Prop) → Prop
structure DEnds where
  nx : DEnv → MH → Prop
  rt : DK
  bk : DEnv → MH → Prop := fun _ _ => False
  ct : DEnv → MH → Prop := fun _ _ => False
abbrev DS := DEnds → DEnv → MH → Prop
/-- the names have their data -/
structure RN (K : PySem.W.Frag) (G : Hp) (σ : L2.St) (env : DEnv) : Prop where
  len : σ.length = env.length
  at_ : ∀ (i : Nat) (d : Dv), env[i]? = some (some d) → ∃ v, σ[i]? = some (some v) ∧ RD K G v d
theorem RN.same {K : PySem.W.Frag} {G G' : Hp} {σ : L2.St} {env : DEnv} (s : Same G G') (h : RN K G σ env) : RN K G' σ env :=
  ⟨h.len, fun i d e => let ⟨v, a, b⟩ := h.at_ i d e; ⟨v, a, RD.same s _ _ b⟩⟩
theorem RN.set {K : PySem.W.Frag} {G : Hp} {σ : L2.St} {env : DEnv} (h : RN K G σ env) {v : V} {d : Dv} (r : RD K G v d) (i : Nat) : RN K G (σ.set i (some v)) (env.set i (some d)) := by
  refine ⟨by rw [List.length_set, List.length_set, h.len], fun j e hj => ?_⟩
  by_cases c : i = j
  · subst c
    by_cases l : i < env.length
    · rw [List.getElem?_set_self l] at hj
      cases hj
      exact ⟨v, List.getElem?_set_self (by rw [h.len]; exact l), r⟩
    · rw [List.getElem?_eq_none (by simpa using l)] at hj
      cases hj
  · rw [List.getElem?_set_ne c] at hj
    rw [List.getElem?_set_ne c]
    exact h.at_ j e hj
def wipeD (env : DEnv) : List Nat → DEnv
  | [] => env
  | v :: vs => (wipeD env vs).set v none
theorem RN.wipe {K : PySem.W.Frag} {G : Hp} {σ : L2.St} {env : DEnv} (h : RN K G σ env) : ∀ vs : List Nat, RN K G (L2.wipe σ vs) (wipeD env vs)
  | [] => h
  | v :: vs => by
    have z := RN.wipe h vs
    unfold L2.wipe wipeD
    refine ⟨by rw [List.length_set, List.length_set, z.len], fun j e hj => ?_⟩
    by_cases c : v = j
    · subst c
      by_cases l : v < (wipeD env vs).length
      · rw [List.getElem?_set_self l] at hj
        cases hj
      · rw [List.getElem?_eq_none (by simpa using l)] at hj
        cases hj
    · rw [List.getElem?_set_ne c] at hj
      rw [List.getElem?_set_ne c]
      exact z.at_ j e hj
section
variable (K : PySem.W.Frag)
def RE (t : TE) (F : DE) : Prop := ∀ (S : Addr → Bool) (σ : L2.St) (H : Hp) (env : DEnv) (M : MH) (Q : VK) (R : DK), RN K (hid S M H) σ env → HR K S M H → F env M R →
  (∀ d M' v H', R d M' → Gr S M H M' H' → RD K (hid S M' H') v d → HR K S M' H' → Q v H') → t σ H Q
def RT (t : TT) (F : DT) : Prop := ∀ (S : Addr → Bool) (σ : L2.St) (H : Hp) (env : DEnv) (M : MH) (Q : Bool → Hp → Prop) (R : Bool → MH → Prop), RN K (hid S M H) σ env → HR K S M H → F env M R →
  (∀ b M' H', R b M' → Gr S M H M' H' → HR K S M' H' → Q b H') → t σ H Q
def RA (t : TA) (n : Nat) (F : DA) : Prop := ∀ (S : Addr → Bool) (σ : L2.St) (H : Hp) (env : DEnv) (M : MH) (Q : List V → Hp → Prop) (R : List Dv → MH → Prop), RN K (hid S M H) σ env → HR K S M H → F env M R →
  (∀ ds M' vs H', R ds M' → ds.length = n → Gr S M H M' H' → RDs K (hid S M' H') vs ds → HR K S M' H' → Q vs H') → t σ H Q
structure Cnv (S : Addr → Bool) (M : MH) (H : Hp) (E : DEnds) (D : Ends) : Prop where
  nx : ∀ env' M' σ' H', E.nx env' M' → Gr S M H M' H' → RN K (hid S M' H') σ' env' → HR K S M' H' → D.nx σ' H'
  bk : ∀ env' M' σ' H', E.bk env' M' → Gr S M H M' H' → RN K (hid S M' H') σ' env' → HR K S M' H' → D.bk σ' H'
  ct : ∀ env' M' σ' H', E.ct env' M' → Gr S M H M' H' → RN K (hid S M' H') σ' env' → HR K S M' H' → D.ct σ' H'
  rt : ∀ d M' v H', E.rt d M' → Gr S M H M' H' → RD K (hid S M' H') v d → HR K S M' H' → D.rt v H'
def RS (t : TS) (F : DS) : Prop := ∀ (S : Addr → Bool) (σ : L2.St) (H : Hp) (env : DEnv) (M : MH) (D : Ends) (E : DEnds), RN K (hid S M H) σ env → HR K S M H → F E env M → Cnv K S M H E D → t D σ H
end
theorem Cnv.from {K : PySem.W.Frag} {S : Addr → Bool} {M M1 : MH} {H H1 : Hp} {E : DEnds} {D : Ends} (c : Cnv K S M H E D) (g : Gr S M H M1 H1) : Cnv K S M1 H1 E D :=
  ⟨fun e m s h a b => c.nx e m s h a (g.trans b), fun e m s h a b => c.bk e m s h a (g.trans b), fun e m s h a b => c.ct e m s h a (g.trans b), fun e m s h a b => c.rt e m s h a (g.trans b)⟩
/-- judgements: a piece of syntax, its reading, and what it asks -/
structure Ex (X : Cx) (e : Expr) (t : TE) (F : DE) : Prop where
  p : PE X e t
  r : RE X.K t F
structure Ts (X : Cx) (e : Expr) (t : TT) (F : DT) : Prop where
  p : PT X e t
  r : RT X.K t F
structure Tw (X : Cx) (e : Expr) (t : TT) (F : DT) : Prop where
  p : PW X e t
  r : RT X.K t F
structure As (X : Cx) (es : List Expr) (t : TA) (n : Nat) (F : DA) : Prop where
  p : PA X es t
  r : RA X.K t n F
structure Sm (X : Cx) (st : Stmt) (t : TS) (F : DS) : Prop where
  p : PS X st t
  r : RS X.K t F
structure Ss (X : Cx) (st : List Stmt) (t : TS) (F : DS) : Prop where
  p : PSs X st t
  r : RS X.K t F
end Vk
set_option linter.unusedVariables false
namespace Vk
open PySem PySem.Spec PyProof.Rows L2
/-! # The data layer: expressions -/
section
variable {X : Cx} {a b c e : Expr} {ta tb tc te : TE} {A B C F : DE} {pos : Pos}
def dV (i : Nat) : DE := fun env M Q => match env[i]? with | some (some d) => Q d M | _ => False
def dC (d : Dv) : DE := fun _ M Q => Q d M
theorem RE.var {K : PySem.W.Frag} (i : Nat) : RE K (tVar i) (dV i) := by
  intro S σ H env M Q R rn hr f q
  unfold dV at f
  split at f
  · rename_i d e
    obtain ⟨v, ev, rd⟩ := rn.at_ i d e
    exact ⟨v, ev, q d M v H f Gr.refl rd hr⟩
  · exact f.elim
theorem RE.con {K : PySem.W.Frag} {v : V} {d : Dv} (h : ∀ G, RD K G v d) : RE K (tC v) (dC d) := by
  intro S σ H env M Q R rn hr f q
  exact q d M v H f Gr.refl (h _) hr
theorem dv (i : Nat) {x : Str} {pos : Pos} (hN : X.N[i]? = some x := by rfl) (hv : Vis X.env.scope x := by first | exact Or.inl rfl | exact Or.inr (Or.inl rfl) | exact Or.inr (Or.inr rfl)) (hd : (x == ("__debug__" : Str)) = false := by decide)
    (hcd : (x == ("__classdict__" : Str)) = false := by decide) : Ex X (.Name x pos) (tVar i) (dV i) := ⟨pv i hN hv hd hcd, RE.var i⟩
theorem d_int {i : Int} {j pos} : Ex X (.Constant (.int i) j pos) (tC (.int i)) (dC (.int i)) := ⟨pe_int, RE.con fun _ => .int i⟩
theorem d_bl {i : Bool} {j pos} : Ex X (.Constant (.bool i) j pos) (tC (.bl i)) (dC (.bl i)) := ⟨pe_bl, RE.con fun _ => .bl i⟩
theorem d_non {j pos} : Ex X (.Constant .none j pos) (tC .non) (dC .non) := ⟨pe_non, RE.con fun _ => .non⟩
theorem d_str {x : Str} {j pos} : Ex X (.Constant (.str x) j pos) (tC (.str x)) (dC (.str x)) := ⟨pe_str, RE.con fun _ => .str x⟩
/-- a name of the module: v by d -/
theorem d_glob {x : Str} {v : V} {d : Dv} {u : Value} {pos : Pos} (hg : Gl X x) (hm : X.mg x = some u) (r : RelV v u) (h : ∀ G, RD X.K G v d) (hd : (x == ("__debug__" : Str)) = false := by decide) : Ex X (.Name x pos) (tC v) (dC d) :=
  ⟨pe_glob hg hm r hd, RE.con h⟩
/-! ## operators -/
abbrev DO := Dv → Dv → MH → DK → Prop
def RO (K : PySem.W.Frag) (r : R2) (g : DO) : Prop := ∀ (S : Addr → Bool) (H : Hp) (x y : V) (dx dy : Dv) (M : MH) (Q : VK) (R : DK), RD K (hid S M H) x dx → RD K (hid S M H) y dy → HR K S M H → g dx dy M R →
  (∀ d M' v H', R d M' → Gr S M H M' H' → RD K (hid S M' H') v d → HR K S M' H' → Q v H') → r x y H Q
structure Op (X : Cx) (f : Value → Value → Sem Value) (r : R2) (g : DO) : Prop where
  p : OpR X f r
  r : RO X.K r g
def dOp (g : DO) (A B : DE) : DE := fun env M Q => A env M fun x M1 => B env M1 fun y M2 => g x y M2 Q
theorem RE.op {K : PySem.W.Frag} {r : R2} {g : DO} (o : RO K r g) (h1 : RE K ta A) (h2 : RE K tb B) : RE K (tOp r ta tb) (dOp g A B) := by
  intro S σ H env M Q R rn hr f q
  refine h1 S σ H env M _ _ rn hr f fun x M1 v H1 f1 g1 r1 hr1 => ?_
  refine h2 S σ H1 env M1 _ _ (rn.same g1.same) hr1 f1 fun y M2 w H2 f2 g2 r2 hr2 => ?_
  exact o S H2 v w x y M2 Q R (RD.same g2.same _ _ r1) r2 hr2 f2 fun d M' z H' h k rd hr' => q d M' z H' h ((g1.trans g2).trans k) rd hr'
theorem d_op {op : Operator} {r : R2} {g : DO} (o : Op X (binaryOp op) r g) (h1 : Ex X a ta A) (h2 : Ex X b tb B) : Ex X (.BinOp a op b pos) (tOp r ta tb) (dOp g A B) := ⟨pe_op o.p h1.p h2.p, RE.op o.r h1.r h2.r⟩
theorem d_cmp {op : CmpOp} {r : R2} {g : DO} (o : Op X (compareOp op) r g) (h1 : Ex X a ta A) (h2 : Ex X b tb B) (hm : behindInMarks op b = false) : Ex X (.Compare a [op] [b] pos) (tOp r ta tb) (dOp g A B) := ⟨pe_cmpR o.p h1.p h2.p hm, RE.op o.r h1.r h2.r⟩
theorem opr_or {f : Value → Value → Sem Value} {r u : R2} (h1 : OpR X f r) (h2 : OpR X f u) : OpR X f (fun x y H Q => r x y H Q ∨ u x y H Q) := by
  intro pins s σ H x y v w Q I rx ry h
  rcases h with h | h
  · exact h1 pins s σ H x y v w Q I rx ry h
  · exact h2 pins s σ H x y v w Q I rx ry h
/-- an operator of two ints -/
def gI (C : Int → Int → Prop) (k : Int → Int → Dv) : DO := fun x y M Q => match x, y with | .int i, .int j => C i j ∧ Q (k i j) M | _, _ => False
theorem RO.i {K : PySem.W.Frag} {C : Int → Int → Prop} {k : Int → Int → Dv} {kv : Int → Int → V} (h : ∀ i j G, RD K G (kv i j) (k i j)) : RO K (rI C kv) (gI C k) := by
  intro S H x y dx dy M Q R rx ry hr f q
  unfold gI at f
  split at f
  · cases rx
    cases ry
    exact ⟨_, _, rfl, rfl, f.1, q _ M _ H f.2 Gr.refl (h _ _ _) hr⟩
  · exact f.elim
theorem rI0_of {f : Value → Value → Sem Value} {k : Int → Int → V} (h : OpR X f (rI0 k)) : OpR X f (rI (fun _ _ => True) k) := by
  intro pins s σ H x y v u Q I rx ry z
  obtain ⟨i, j, e1, e2, _, q⟩ := z
  exact h pins s σ H x y v u Q I rx ry ⟨i, j, e1, e2, q⟩
def gMinus : DO := fun x y M Q => match x, y with | .int i, .int j => Q (.int (i - j)) M | _, _ => False
theorem o_minus : Op X (binaryOp .Sub) (rI0 fun i j => .int (i - j)) gMinus := by
  refine ⟨op_sub, ?_⟩
  intro S H x y dx dy M Q R rx ry hr f q
  unfold gMinus at f
  split at f
  · cases rx
    cases ry
    exact ⟨_, _, rfl, rfl, q _ M _ H f Gr.refl (.int _) hr⟩
  · exact f.elim
theorem o_mod : Op X (binaryOp .Mod) (rI (fun _ j => 0 < j) fun i j => .int (i % j)) (gI (fun _ j => 0 < j) fun i j => .int (i % j)) := ⟨op_mod, RO.i fun _ _ _ => .int _⟩
theorem o_fdiv : Op X (binaryOp .FloorDiv) (rI CDiv fun i j => .int (i / j)) (gI CDiv fun i j => .int (i / j)) := ⟨op_fdiv, RO.i fun _ _ _ => .int _⟩
theorem o_pow : Op X (binaryOp .Pow) (rI CPow fun i j => .int (i ^ j.toNat)) (gI CPow fun i j => .int (i ^ j.toNat)) := ⟨op_pow, RO.i fun _ _ _ => .int _⟩
theorem o_mul : Op X (binaryOp .Mult) (rI CMul fun i j => .int (i * j)) (gI CMul fun i j => .int (i * j)) := ⟨op_mul, RO.i fun _ _ _ => .int _⟩
/-! ### + -/
def gAdd : DO := fun x y M Q => match x, y with
  | .int i, .int j => Q (.int (i + j)) M
  | .str i, .str j => i.length + j.length ≤ sizeLine ∧ Q (.str (i ++ j)) M
  | .lst i, .lst j => i.length + j.length ≤ sizeLine ∧ Q (.lst (i ++ j)) M
  | .tup i, .tup j => i.length + j.length ≤ sizeLine ∧ Q (.tup (i ++ j)) M
  | _, _ => False
def rAddA (K : PySem.W.Frag) : R2 := fun x y H Q => (rI0 fun i j => .int (i + j)) x y H Q ∨ (∃ i j, x = .str i ∧ y = .str j ∧ i.length + j.length ≤ sizeLine ∧ Q (.str (i ++ j)) H) ∨ rCat x y H Q ∨ rCatA K x y H Q
theorem RD.newT {K : PySem.W.Frag} {S : Addr → Bool} {M : MH} {H : Hp} (hr : HR K S M H) {p : Addr} (hp : H p = none) {vs : List V} {ds : List Dv} (h : RDs K (hid S M H) vs ds) :
    Gr S M H M (upd H p (.tup vs)) ∧ HR K S M (upd H p (.tup vs)) ∧ RD K (hid S M (upd H p (.tup vs))) (.ref p) (.tup ds) := by
  obtain ⟨g, hr', at_⟩ := hr.new hp (.tup vs)
  exact ⟨g, hr', .tup (.inl (.inl at_)) (RDs.same g.same _ _ h)⟩
theorem RD.newL {K : PySem.W.Frag} {S : Addr → Bool} {M : MH} {H : Hp} (hr : HR K S M H) {p : Addr} (hp : H p = none) {vs : List V} {ds : List Dv} (h : RDs K (hid S M H) vs ds) :
    Gr S M H M (upd H p (.lst vs)) ∧ HR K S M (upd H p (.lst vs)) ∧ RD K (hid S M (upd H p (.lst vs))) (.ref p) (.lst ds) := by
  obtain ⟨g, hr', at_⟩ := hr.new hp (.lst vs)
  exact ⟨g, hr', .lst at_ (RDs.same g.same _ _ h)⟩
/-- from what does not change to what stands -/
theorem sqT_hid {K : PySem.W.Frag} {S : Addr → Bool} {M : MH} {H : Hp} {a : Addr} {vs : List V} (h : SqT K (hid S M H) a vs) : SqT K H a vs := by
  rcases h with (h | ⟨o, h⟩) | h
  · exact .inl (.inl (hid_some h).1)
  · exact .inl (.inr ⟨o, (hid_some h).1⟩)
  · exact .inr h
theorem sqL_hid {K : PySem.W.Frag} {S : Addr → Bool} {M : MH} {H : Hp} {a : Addr} {vs : List V} (h : SqL K (hid S M H) a vs) : SqL K H a vs := by
  rcases h with (h | ⟨o, h⟩) | h
  · exact .inl (.inl (hid_some h).1)
  · exact .inl (.inr ⟨o, (hid_some h).1⟩)
  · exact .inr h
theorem RDs.isNil {K : PySem.W.Frag} {G : Hp} {vs : List V} {ds : List Dv} (h : RDs K G vs ds) : vs = [] ↔ ds = [] := by
  cases h with
  | nil => simp
  | cons _ _ => simp
theorem o_add : Op X (binaryOp .Add) (rAddA X.K) gAdd := by
  refine ⟨opr_or op_add (opr_or op_add_str (opr_or op_cat op_catA)), ?_⟩
  intro S H x y dx dy M Q R rx ry hr f q
  unfold gAdd at f
  split at f
  · cases rx
    cases ry
    exact .inl ⟨_, _, rfl, rfl, q _ M _ H f Gr.refl (.int _) hr⟩
  · cases rx
    cases ry
    exact .inr (.inl ⟨_, _, rfl, rfl, f.1, q _ M _ H f.2 Gr.refl (.str _) hr⟩)
  · cases rx with
    | lst ha ra =>
      cases ry with
      | lst hb rb =>
        refine .inr (.inr (.inl ⟨_, _, _, _, rfl, rfl, (hid_some ha).1, (hid_some hb).1, by rw [ra.len, rb.len]; exact f.1, fun p hp => ?_⟩))
        obtain ⟨g, hr', rd⟩ := RD.newL hr hp (ra.app rb)
        exact q _ M _ _ f.2 g rd hr'
  · cases rx with
    | tup ha ra =>
      cases ry with
      | tup hb rb =>
        refine .inr (.inr (.inr ⟨_, _, _, _, rfl, rfl, sqT_hid ha, sqT_hid hb, by rw [ra.len, rb.len]; exact f.1, fun z => ?_, fun _ z => ?_, fun _ _ p hp => ?_⟩))
        · have e := ra.isNil.mp z
          subst e
          exact q _ M _ H f.2 Gr.refl (.tup hb (by rw [List.nil_append]; exact rb)) hr
        · have e := rb.isNil.mp z
          subst e
          exact q _ M _ H f.2 Gr.refl (.tup ha (by rw [List.append_nil]; exact ra)) hr
        · obtain ⟨g, hr', rd⟩ := RD.newT hr hp (ra.app rb)
          exact q _ M _ _ f.2 g rd hr'
  · exact f.elim
/-! ### comparisons -/
def gLt : DO := fun x y M Q => match x, y with
  | .int i, .int j => Q (.bl (decide (i < j))) M
  | .str i, .str j => Q (.bl (decide (i.cps.toList < j.cps.toList))) M
  | _, _ => False
def gLe : DO := fun x y M Q => match x, y with
  | .int i, .int j => Q (.bl (decide (i ≤ j))) M
  | .str i, .str j => Q (.bl (!decide (j.cps.toList < i.cps.toList))) M
  | _, _ => False
abbrev rSS (k : Str → Str → Bool) : R2 := fun x y H Q => ∃ i j, x = .str i ∧ y = .str j ∧ Q (.bl (k i j)) H
abbrev rIS (k1 : Int → Int → Bool) (k2 : Str → Str → Bool) : R2 := fun x y H Q => rI0 (fun i j => .bl (k1 i j)) x y H Q ∨ rSS k2 x y H Q
theorem RO.is {K : PySem.W.Frag} {k1 : Int → Int → Bool} {k2 : Str → Str → Bool} {g : DO}
    (hg : ∀ x y M Q, g x y M Q → (∃ i j, x = .int i ∧ y = .int j ∧ Q (.bl (k1 i j)) M) ∨ ∃ i j, x = .str i ∧ y = .str j ∧ Q (.bl (k2 i j)) M) : RO K (rIS k1 k2) g := by
  intro S H x y dx dy M Q R rx ry hr f q
  rcases hg _ _ _ _ f with ⟨i, j, rfl, rfl, f2⟩ | ⟨i, j, rfl, rfl, f2⟩
  · cases rx
    cases ry
    exact .inl ⟨_, _, rfl, rfl, q _ M _ H f2 Gr.refl (.bl _) hr⟩
  · cases rx
    cases ry
    exact .inr ⟨_, _, rfl, rfl, q _ M _ H f2 Gr.refl (.bl _) hr⟩
theorem o_lt : Op X (compareOp .Lt) (rIS (fun i j => decide (i < j)) fun i j => decide (i.cps.toList < j.cps.toList)) gLt := by
  refine ⟨opr_or op_lt op_lt_str, RO.is fun x y M Q f => ?_⟩
  unfold gLt at f
  split at f
  · exact .inl ⟨_, _, rfl, rfl, f⟩
  · exact .inr ⟨_, _, rfl, rfl, f⟩
  · exact f.elim
theorem o_le : Op X (compareOp .LtE) (rIS (fun i j => decide (i ≤ j)) fun i j => !decide (j.cps.toList < i.cps.toList)) gLe := by
  refine ⟨opr_or op_le op_le_str, RO.is fun x y M Q f => ?_⟩
  unfold gLe at f
  split at f
  · exact .inl ⟨_, _, rfl, rfl, f⟩
  · exact .inr ⟨_, _, rfl, rfl, f⟩
  · exact f.elim
def gB (k : Int → Int → Bool) : DO := fun x y M Q => match x, y with | .int i, .int j => Q (.bl (k i j)) M | _, _ => False
theorem RO.bb {K : PySem.W.Frag} {k : Int → Int → Bool} : RO K (rI0 fun i j => .bl (k i j)) (gB k) := by
  intro S H x y dx dy M Q R rx ry hr f q
  unfold gB at f
  split at f
  · cases rx
    cases ry
    exact ⟨_, _, rfl, rfl, q _ M _ H f Gr.refl (.bl _) hr⟩
  · exact f.elim
theorem o_gt : Op X (compareOp .Gt) (rI0 fun i j => .bl (decide (i > j))) (gB fun i j => decide (i > j)) := ⟨op_gt, RO.bb⟩
theorem o_ge : Op X (compareOp .GtE) (rI0 fun i j => .bl (decide (i ≥ j))) (gB fun i j => decide (i ≥ j)) := ⟨op_ge, RO.bb⟩
end
end Vk
set_option linter.unusedVariables false
namespace Vk
open PySem PySem.Spec PyProof.Rows L2
/-! # The data layer: tests, logic, displays, slices, places, calls -/
section
variable {X : Cx} {a b c e : Expr} {es : List Expr} {ta tb tc te : TE} {ti tj : TT} {tt : TA} {n : Nat} {A B C F : DE} {I J : DT} {G : DA} {pos : Pos} {r r' : R2} {g g' : DO}
/-! ## chains -/
def dChain (g g' : DO) (A B C : DE) : DE := fun env M Q => A env M fun x M1 => B env M1 fun y M2 => g x y M2 fun z M3 => match z with
  | .bl k => if k = true then C env M3 fun w M4 => g' y w M4 Q else Q (.bl false) M3
  | _ => False
theorem RE.chain {K : PySem.W.Frag} (o : RO K r g) (o' : RO K r' g') (h1 : RE K ta A) (h2 : RE K tb B) (h3 : RE K tc C) : RE K (tChain r r' ta tb tc) (dChain g g' A B C) := by
  intro S σ H env M Q R rn hr f q
  refine h1 S σ H env M _ _ rn hr f fun x M1 v H1 f1 g1 r1 hr1 => ?_
  refine h2 S σ H1 env M1 _ _ (rn.same g1.same) hr1 f1 fun y M2 w H2 f2 g2 r2 hr2 => ?_
  refine o S H2 v w x y M2 _ _ (RD.same g2.same _ _ r1) r2 hr2 f2 fun d M3 z H3 f3 g3 r3 hr3 => ?_
  split at f3
  · cases r3
    refine ⟨_, rfl, ?_⟩
    split at f3
    · rename_i k
      rw [if_pos k]
      refine h3 S σ H3 env M3 _ _ (rn.same ((g1.trans g2).trans g3).same) hr3 f3 fun u M4 y' H4 f4 g4 r4 hr4 => ?_
      exact o' S H4 w y' y u M4 Q R (RD.same (g3.trans g4).same _ _ r2) r4 hr4 f4 fun d' M' z' H' h k rd hr' => q d' M' z' H' h (((g1.trans g2).trans (g3.trans g4)).trans k) rd hr'
    · rename_i k
      rw [if_neg k]
      exact q _ M3 _ H3 f3 ((g1.trans g2).trans g3) (.bl _) hr3
  · exact f3.elim
theorem d_chain {op op' : CmpOp} (o : Op X (compareOp op) r g) (o' : Op X (compareOp op') r' g') (h1 : Ex X a ta A) (h2 : Ex X b tb B) (h3 : Ex X c tc C) (hm : lastMarks [op, op'] [b, c] = false := by with_unfolding_all rfl) :
    Ex X (.Compare a [op, op'] [b, c] pos) (tChain r r' ta tb tc) (dChain g g' A B C) := ⟨pe_chain o.p o'.p h1.p h2.p h3.p hm, RE.chain o.r o'.r h1.r h2.r h3.r⟩
/-! ## tests -/
def dB (A : DE) : DT := fun env M Q => A env M fun x M1 => match x with | .bl k => Q k M1 | _ => False
theorem RT.val {K : PySem.W.Frag} (h : RE K ta A) : RT K (tB ta) (dB A) := by
  intro S σ H env M Q R rn hr f q
  refine h S σ H env M _ _ rn hr f fun x M1 v H1 f1 g1 r1 hr1 => ?_
  split at f1
  · cases r1
    exact ⟨_, rfl, q _ M1 H1 f1 g1 hr1⟩
  · exact f1.elim
theorem t_val {e : Expr} (h : Ex X e te F) (he : ∀ whole, isTrue e X.env whole = (do let v ← whole; standAt e.pos; holding [v] (truthy v)) := by intro _; rfl) : Ts X e (tB te) (dB F) := ⟨pt_val h.p he, RT.val h.r⟩
theorem t_cmp {op : CmpOp} (o : Op X (compareOp op) r g) (h1 : Ex X a ta A) (h2 : Ex X b tb B) (hm : behindInMarks op b = false) : Ts X (.Compare a [op] [b] pos) (tTest (tOp r ta tb)) (dB (dOp g A B)) := ⟨pt_cmpR o.p h1.p h2.p hm, RT.val (RE.op o.r h1.r h2.r)⟩
theorem t_chain {op op' : CmpOp} (o : Op X (compareOp op) r g) (o' : Op X (compareOp op') r' g') (h1 : Ex X a ta A) (h2 : Ex X b tb B) (h3 : Ex X c tc C) (hm : lastMarks [op, op'] [b, c] = false := by with_unfolding_all rfl) :
    Ts X (.Compare a [op, op'] [b, c] pos) (tTest (tChain r r' ta tb tc)) (dB (dChain g g' A B C)) := ⟨pt_chain o.p o'.p h1.p h2.p h3.p hm, RT.val (RE.chain o.r o'.r h1.r h2.r h3.r)⟩
/-- the truth of a value -/
def dTru (A : DE) : DT := fun env M Q => A env M fun x M1 => match x with
  | .non => Q false M1
  | .bl b => Q b M1
  | .int i => Q (i != 0) M1
  | .str y => y.length ≤ sizeLine ∧ Q ((y.length : Int) != 0) M1
  | .tup ds => Q (!ds.isEmpty) M1
  | .lst ds => Q (!ds.isEmpty) M1
  | .scr ns => Q (!ns.isEmpty) M1
  | .ref p => match M1 p with
    | some (.lst ds) => Q (!ds.isEmpty) M1
    | _ => False
  | _ => False
theorem RDs.isEmpty {K : PySem.W.Frag} {G : Hp} {vs : List V} {ds : List Dv} (h : RDs K G vs ds) : vs.isEmpty = ds.isEmpty := by cases h <;> rfl
theorem t_truth (h : Ex X a ta A) (he : ∀ whole, isTrue a X.env whole = (do let v ← whole; standAt a.pos; holding [v] (truthy v)) := by intro _; rfl) :
    Ts X a (fun σ H Q => ta σ H fun x H' => ∃ k, TruV X.K x H' k ∧ Q k H') (dTru A) := by
  refine ⟨pt_truth h.p he, ?_⟩
  intro S σ H env M Q R rn hr f q
  refine h.r S σ H env M _ _ rn hr f fun x M1 v H1 f1 g1 r1 hr1 => ?_
  split at f1
  · cases r1; exact ⟨_, rfl, q _ M1 H1 f1 g1 hr1⟩
  · cases r1; exact ⟨_, rfl, q _ M1 H1 f1 g1 hr1⟩
  · cases r1; exact ⟨_, rfl, q _ M1 H1 f1 g1 hr1⟩
  · cases r1; exact ⟨_, ⟨f1.1, rfl⟩, q _ M1 H1 f1.2 g1 hr1⟩
  · cases r1 with
    | tup ha ra =>
      rw [← ra.isEmpty] at f1
      exact ⟨_, .inr (.inl ⟨_, sqT_hid ha, rfl⟩), q _ M1 H1 f1 g1 hr1⟩
  · cases r1 with
    | lst ha ra =>
      rw [← ra.isEmpty] at f1
      exact ⟨_, .inl ⟨_, SqL.of (hid_some ha).1, rfl⟩, q _ M1 H1 f1 g1 hr1⟩
  · cases r1 with
    | scr ha =>
      refine ⟨_, .inl ⟨_, sqL_hid ha, rfl⟩, q _ M1 H1 ?_ g1 hr1⟩
      rw [List.isEmpty_map]
      exact f1
  · cases r1
    split at f1
    · rename_i p _ ds e
      obtain ⟨u, z1, z2⟩ := hr1.obj _ _ e
      cases z2 with
      | lst ra =>
        rw [← ra.isEmpty] at f1
        exact ⟨_, .inl ⟨_, SqL.of z1, rfl⟩, q _ M1 H1 f1 g1 hr1⟩
    · exact f1.elim
  · exact f1.elim
def dNotT (I : DT) : DT := fun env M Q => I env M fun k M1 => Q (!k) M1
theorem t_not (h : Ts X a ti I) : Ts X (.UnaryOp .Not a pos) (tNot ti) (dNotT I) := by
  refine ⟨pt_not h.p, ?_⟩
  intro S σ H env M Q R rn hr f q
  exact h.r S σ H env M _ _ rn hr f fun k M1 H1 f1 g1 hr1 => q _ M1 H1 f1 g1 hr1
def dAndT (I J : DT) : DT := fun env M Q => I env M fun k M1 => if k = true then J env M1 Q else Q false M1
def dOrT (I J : DT) : DT := fun env M Q => I env M fun k M1 => if k = true then Q true M1 else J env M1 Q
theorem w_and {rest : List Expr} (h1 : Ts X a ti I) (h2 : Tw X (.BoolOp .And (b :: rest) pos) tj J) : Tw X (.BoolOp .And (a :: b :: rest) pos) (tAnd ti tj) (dAndT I J) := by
  refine ⟨pw_and h1.p h2.p, ?_⟩
  intro S σ H env M Q R rn hr f q
  refine h1.r S σ H env M _ _ rn hr f fun k M1 H1 f1 g1 hr1 => ?_
  split at f1
  · rename_i e
    rw [if_pos e]
    exact h2.r S σ H1 env M1 Q R (rn.same g1.same) hr1 f1 fun d M' H' h k hr' => q d M' H' h (g1.trans k) hr'
  · rename_i e
    rw [if_neg e]
    exact q _ M1 H1 f1 g1 hr1
theorem w_or {rest : List Expr} (h1 : Ts X a ti I) (h2 : Tw X (.BoolOp .Or (b :: rest) pos) tj J) : Tw X (.BoolOp .Or (a :: b :: rest) pos) (tOr ti tj) (dOrT I J) := by
  refine ⟨pw_or h1.p h2.p, ?_⟩
  intro S σ H env M Q R rn hr f q
  refine h1.r S σ H env M _ _ rn hr f fun k M1 H1 f1 g1 hr1 => ?_
  split at f1
  · rename_i e
    rw [if_pos e]
    exact q _ M1 H1 f1 g1 hr1
  · rename_i e
    rw [if_neg e]
    exact h2.r S σ H1 env M1 Q R (rn.same g1.same) hr1 f1 fun d M' H' h k hr' => q d M' H' h (g1.trans k) hr'
theorem w_and1 (h : Ts X a ti I) : Tw X (.BoolOp .And [a] pos) ti I := ⟨pw_and1 h.p, h.r⟩
theorem w_or1 (h : Ts X a ti I) : Tw X (.BoolOp .Or [a] pos) ti I := ⟨pw_or1 h.p, h.r⟩
theorem Tw.ts (h : Tw X a ti I) : Ts X a ti I := ⟨PW.pt h.p, h.r⟩
/-! ## logic as values -/
def dAnd (A B : DE) : DE := fun env M Q => A env M fun x M1 => match x with | .bl k => if k = true then B env M1 Q else Q (.bl false) M1 | _ => False
def dOr (A B : DE) : DE := fun env M Q => A env M fun x M1 => match x with | .bl k => if k = true then Q (.bl true) M1 else B env M1 Q | _ => False
def dNot (A : DE) : DE := fun env M Q => A env M fun x M1 => match x with | .bl k => Q (.bl (!k)) M1 | _ => False
theorem d_and {rest : List Expr} (h1 : Ex X a ta A) (h2 : Ex X (.BoolOp .And (b :: rest) pos) tb B) : Ex X (.BoolOp .And (a :: b :: rest) pos) (tAndV ta tb) (dAnd A B) := by
  refine ⟨pe_and h1.p h2.p, ?_⟩
  intro S σ H env M Q R rn hr f q
  refine h1.r S σ H env M _ _ rn hr f fun x M1 v H1 f1 g1 r1 hr1 => ?_
  split at f1
  · cases r1
    refine ⟨_, rfl, ?_⟩
    split at f1
    · rename_i e
      rw [if_pos e]
      exact h2.r S σ H1 env M1 Q R (rn.same g1.same) hr1 f1 fun d M' v H' h k rd hr' => q d M' v H' h (g1.trans k) rd hr'
    · rename_i e
      rw [if_neg e]
      exact q _ M1 _ H1 f1 g1 (.bl _) hr1
  · exact f1.elim
theorem d_or {rest : List Expr} (h1 : Ex X a ta A) (h2 : Ex X (.BoolOp .Or (b :: rest) pos) tb B) : Ex X (.BoolOp .Or (a :: b :: rest) pos) (tOrV ta tb) (dOr A B) := by
  refine ⟨pe_or h1.p h2.p, ?_⟩
  intro S σ H env M Q R rn hr f q
  refine h1.r S σ H env M _ _ rn hr f fun x M1 v H1 f1 g1 r1 hr1 => ?_
  split at f1
  · cases r1
    refine ⟨_, rfl, ?_⟩
    split at f1
    · rename_i e
      rw [if_pos e]
      exact q _ M1 _ H1 f1 g1 (.bl _) hr1
    · rename_i e
      rw [if_neg e]
      exact h2.r S σ H1 env M1 Q R (rn.same g1.same) hr1 f1 fun d M' v H' h k rd hr' => q d M' v H' h (g1.trans k) rd hr'
  · exact f1.elim
theorem d_one {op : BoolOp} (h : Ex X a ta A) : Ex X (.BoolOp op [a] pos) ta A := ⟨pe_one h.p, h.r⟩
theorem d_not (h : Ex X a ta A) : Ex X (.UnaryOp .Not a pos) (tNotV ta) (dNot A) := by
  refine ⟨pe_not h.p, ?_⟩
  intro S σ H env M Q R rn hr f q
  refine h.r S σ H env M _ _ rn hr f fun x M1 v H1 f1 g1 r1 hr1 => ?_
  split at f1
  · cases r1
    exact ⟨_, rfl, q _ M1 _ H1 f1 g1 (.bl _) hr1⟩
  · exact f1.elim
def dIf (I : DT) (A B : DE) : DE := fun env M Q => I env M fun k M1 => if k = true then A env M1 Q else B env M1 Q
theorem d_if (h0 : Ts X c ti I) (h1 : Ex X a ta A) (h2 : Ex X b tb B) : Ex X (.IfExp c a b pos) (tIf ti ta tb) (dIf I A B) := by
  refine ⟨pe_ifExp h0.p h1.p h2.p, ?_⟩
  intro S σ H env M Q R rn hr f q
  refine h0.r S σ H env M _ _ rn hr f fun k M1 H1 f1 g1 hr1 => ?_
  split at f1
  · rename_i e
    rw [if_pos e]
    exact h1.r S σ H1 env M1 Q R (rn.same g1.same) hr1 f1 fun d M' v H' h k rd hr' => q d M' v H' h (g1.trans k) rd hr'
  · rename_i e
    rw [if_neg e]
    exact h2.r S σ H1 env M1 Q R (rn.same g1.same) hr1 f1 fun d M' v H' h k rd hr' => q d M' v H' h (g1.trans k) rd hr'
/-! ## one argument -/
def gU (k : Int → Dv) : Dv → MH → DK → Prop := fun x M Q => match x with | .int i => Q (k i) M | _ => False
def dNeg (A : DE) : DE := fun env M Q => A env M fun x M1 => match x with | .int i => Q (.int (-i)) M1 | _ => False
theorem d_neg (h : Ex X a ta A) : Ex X (.UnaryOp .USub a pos) (tUn (rU fun i => .int (-i)) ta) (dNeg A) := by
  refine ⟨pe_un un_neg h.p, ?_⟩
  intro S σ H env M Q R rn hr f q
  refine h.r S σ H env M _ _ rn hr f fun x M1 v H1 f1 g1 r1 hr1 => ?_
  split at f1
  · cases r1
    exact ⟨_, rfl, q _ M1 _ H1 f1 g1 (.int _) hr1⟩
  · exact f1.elim
/-! ## lists of arguments, displays -/
def dANil : DA := fun _ M Q => Q [] M
def dACons (A : DE) (G : DA) : DA := fun env M Q => A env M fun x M1 => G env M1 fun xs M2 => Q (x :: xs) M2
theorem a_nil : As X [] tNil 0 dANil := by
  refine ⟨pa_nil, ?_⟩
  intro S σ H env M Q R rn hr f q
  exact q [] M [] H f rfl Gr.refl .nil hr
theorem a_cons (h1 : Ex X e te F) (h2 : As X es tt n G) (hs : starEach (e :: es) X.env = (false, eval e X.env) :: starEach es X.env := by rfl) : As X (e :: es) (tCons te tt) (n + 1) (dACons F G) := by
  refine ⟨pa_cons h1.p h2.p hs, ?_⟩
  intro S σ H env M Q R rn hr f q
  refine h1.r S σ H env M _ _ rn hr f fun x M1 v H1 f1 g1 r1 hr1 => ?_
  refine h2.r S σ H1 env M1 _ _ (rn.same g1.same) hr1 f1 fun ds M2 vs H2 f2 l2 g2 r2 hr2 => ?_
  exact q _ M2 _ H2 f2 (by rw [List.length_cons, l2]) (g1.trans g2) (.cons (RD.same g2.same _ _ r1) r2) hr2
def dTup (G : DA) : DE := fun env M Q => G env M fun ds M1 => Q (.tup ds) M1
def dLst (G : DA) : DE := fun env M Q => G env M fun ds M1 => Q (.lst ds) M1
/-- a new list that code changes -/
def dLstM (G : DA) : DE := fun env M Q => G env M fun ds M1 => ∀ p, M1 p = none → Q (.ref p) (mup M1 p (.lst ds))
theorem d_tup {x1} (h : As X es tt n G) (hn : n ≤ sizeLine := by decide) : Ex X (.Tuple es x1 pos) (tTup tt) (dTup G) := by
  refine ⟨pe_tup h.p, ?_⟩
  intro S σ H env M Q R rn hr f q
  refine h.r S σ H env M _ _ rn hr f fun ds M1 vs H1 f1 l1 g1 r1 hr1 => ⟨by rw [r1.len, l1]; exact hn, fun p hp => ?_⟩
  obtain ⟨g2, hr2, rd⟩ := RD.newT hr1 hp r1
  exact q _ M1 _ _ f1 (g1.trans g2) rd hr2
theorem d_lst (h : As X es tt n G) (hn : n ≤ sizeLine := by decide) : Ex X (.List es pos) (tLst tt) (dLst G) := by
  refine ⟨pe_lst h.p, ?_⟩
  intro S σ H env M Q R rn hr f q
  refine h.r S σ H env M _ _ rn hr f fun ds M1 vs H1 f1 l1 g1 r1 hr1 => ⟨by rw [r1.len, l1]; exact hn, fun p hp => ?_⟩
  obtain ⟨g2, hr2, rd⟩ := RD.newL hr1 hp r1
  exact q _ M1 _ _ f1 (g1.trans g2) rd hr2
theorem d_lstM (h : As X es tt n G) (hn : n ≤ sizeLine := by decide) : Ex X (.List es pos) (tLst tt) (dLstM G) := by
  refine ⟨pe_lst h.p, ?_⟩
  intro S σ H env M Q R rn hr f q
  refine h.r S σ H env M _ _ rn hr f fun ds M1 vs H1 f1 l1 g1 r1 hr1 => ⟨by rw [r1.len, l1]; exact hn, fun p hp => ?_⟩
  obtain ⟨g2, hr2⟩ := hr1.newM hp (.lst r1)
  exact q _ _ _ _ (f1 p (hr1.fresh hp).2) (g1.trans g2) (.ref p) hr2
/-- a list that is not changed any more -/
def dFrz (A : DE) : DE := fun env M Q => A env M fun x M1 => match x with
  | .ref p => match M1 p with
    | some (.lst ds) => Q (.lst ds) (mdel M1 p)
    | _ => False
  | _ => False
theorem d_frz (h : Ex X a ta A) : Ex X a ta (dFrz A) := by
  refine ⟨h.p, ?_⟩
  intro S σ H env M Q R rn hr f q
  refine h.r S σ H env M _ _ rn hr f fun x M1 v H1 f1 g1 r1 hr1 => ?_
  split at f1
  · split at f1
    · rename_i e
      cases r1
      obtain ⟨g2, hr2, rd⟩ := hr1.freeze e
      exact q _ _ _ H1 f1 (g1.trans g2) rd hr2
    · exact f1.elim
  · exact f1.elim
/-! ## places -/
def gIx : DO := fun x y M Q => match x, y with
  | .tup ds, .int i => match atI ds i with | some d => Q d M | none => False
  | .lst ds, .int i => match atI ds i with | some d => Q d M | none => False
  | .scr ns, .int i => match atI ns i with | some d => Q (.int d) M | none => False
  | .str z, .int i => z.length ≤ sizeLine ∧ match atI z.cps.toList i with | some c => Q (.str ⟨#[c]⟩) M | none => False
  | .ref p, .int i => match M p with
    | some (.lst ds) => match atI ds i with | some d => Q d M | none => False
    | _ => False
  | _, _ => False
theorem RDs.atI {K : PySem.W.Frag} {G : Hp} {vs : List V} {ds : List Dv} (h : RDs K G vs ds) {i : Int} {d : Dv} (e : atI ds i = some d) : ∃ v, L2.atI vs i = some v ∧ RD K G v d := by
  unfold L2.atI at e ⊢
  rw [h.len]
  cases c : ixN ds.length i with
  | none => rw [c] at e; cases e
  | some j =>
    rw [c] at e
    exact h.at e
theorem ix_or {r u : R2} (h1 : IxR X r) (h2 : IxR X u) : IxR X (fun x y H Q => r x y H Q ∨ u x y H Q) := by
  intro va sl pins s σ H x y v w Q I rx ry h hs
  rcases h with h | h
  · exact h1 va sl pins s σ H x y v w Q I rx ry h hs
  · exact h2 va sl pins s σ H x y v w Q I rx ry h hs
theorem RO.ix {K : PySem.W.Frag} : RO K (fun x y H Q => rIxL K x y H Q ∨ (rIxT K x y H Q ∨ rIxS x y H Q)) gIx := by
  intro S H x y dx dy M Q R rx ry hr f q
  unfold gIx at f
  split at f
  · split at f
    · rename_i e
      cases ry
      cases rx with
      | tup ha ra =>
        obtain ⟨v, ev, rd⟩ := ra.atI e
        exact .inr (.inl ⟨_, _, _, _, rfl, rfl, sqT_hid ha, ev, q _ M _ H f Gr.refl rd hr⟩)
    · exact f.elim
  · split at f
    · rename_i e
      cases ry
      cases rx with
      | lst ha ra =>
        obtain ⟨v, ev, rd⟩ := ra.atI e
        exact .inl ⟨_, _, _, _, rfl, rfl, SqL.of (hid_some ha).1, ev, q _ M _ H f Gr.refl rd hr⟩
    · exact f.elim
  · split at f
    · rename_i d e
      cases ry
      cases rx with
      | scr ha =>
        refine .inl ⟨_, _, _, .int d, rfl, rfl, sqL_hid ha, ?_, q _ M _ H f Gr.refl (.int _) hr⟩
        unfold atI at e ⊢
        rw [List.length_map]
        rename_i ns i _ _
        cases c : ixN ns.length i with
        | none => rw [c] at e; cases e
        | some j =>
          rw [c] at e
          show (List.map V.int ns)[j]? = _
          rw [List.getElem?_map]
          have e' : ns[j]? = some d := e
          rw [e']
          rfl
    · exact f.elim
  · obtain ⟨h1, f⟩ := f
    split at f
    · rename_i e
      cases ry
      cases rx
      exact .inr (.inr ⟨_, _, _, rfl, rfl, h1, e, q _ M _ H f Gr.refl (.str _) hr⟩)
    · exact f.elim
  · split at f
    · rename_i e
      split at f
      · rename_i e2
        cases ry
        cases rx
        obtain ⟨u, z1, z2⟩ := hr.obj _ _ e
        cases z2 with
        | lst ra =>
          obtain ⟨v, ev, rd⟩ := ra.atI e2
          exact .inl ⟨_, _, _, _, rfl, rfl, SqL.of z1, ev, q _ M _ H f Gr.refl rd hr⟩
      · exact f.elim
    · exact f.elim
  · exact f.elim
theorem d_ix (h1 : Ex X a ta A) (h2 : Ex X b tb B) (hs : PlainIx b := by exact fun _ _ => rfl) : Ex X (.Subscript a b pos) (tOp (fun x y H Q => rIxL X.K x y H Q ∨ (rIxT X.K x y H Q ∨ rIxS x y H Q)) ta tb) (dOp gIx A B) :=
  ⟨pe_ix (ix_or ix_list (ix_or ix_tup ix_str)) h1.p h2.p hs, RE.op RO.ix h1.r h2.r⟩
/-! ## slices -/
abbrev DP := DEnv → MH → (Option Int → MH → Prop) → Prop
def RP (K : PySem.W.Frag) (t : TO) (F : DP) : Prop := ∀ (S : Addr → Bool) (σ : L2.St) (H : Hp) (env : DEnv) (M : MH) (Q : Option Int → Hp → Prop) (R : Option Int → MH → Prop), RN K (hid S M H) σ env → HR K S M H → F env M R →
  (∀ b M' H', R b M' → Gr S M H M' H' → HR K S M' H' → Q b H') → t σ H Q
structure Pt (X : Cx) (e : Option Expr) (t : TO) (F : DP) : Prop where
  p : PO X e t
  r : RP X.K t F
def dPNone : DP := fun _ M Q => Q none M
def dPSome (A : DE) : DP := fun env M Q => A env M fun x M1 => match x with | .int i => Q (some i) M1 | _ => False
theorem p_none : Pt X none tNoPart dPNone := ⟨po_none, fun _ _ H _ M _ _ _ hr f q => q none M H f Gr.refl hr⟩
theorem p_some (h : Ex X a ta A) : Pt X (some a) (tPart ta) (dPSome A) := by
  refine ⟨po_some h.p, ?_⟩
  intro S σ H env M Q R rn hr f q
  refine h.r S σ H env M _ _ rn hr f fun x M1 v H1 f1 g1 r1 hr1 => ?_
  split at f1
  · cases r1
    exact ⟨_, rfl, q _ M1 H1 f1 g1 hr1⟩
  · exact f1.elim
def cutD {α : Type} (xs : List α) (lo hi : Option Int) : List α := (xs.drop (HT.sIx xs.length 0 lo)).take (HT.sIx xs.length xs.length hi - HT.sIx xs.length 0 lo)
def gSl (x : Dv) (lo hi : Option Int) (M : MH) (Q : DK) : Prop := match x with
  | .tup ds => Q (.tup (cutD ds lo hi)) M
  | .lst ds => Q (.lst (cutD ds lo hi)) M
  | .scr ns => Q (.lst ((cutD ns lo hi).map .int)) M
  | .str z => z.length ≤ sizeLine ∧ Q (.str (cutS z lo hi)) M
  | .ref p => match M p with
    | some (.lst ds) => Q (.lst (cutD ds lo hi)) M
    | _ => False
  | _ => False
def dSl (A : DE) (L U : DP) : DE := fun env M Q => A env M fun x M1 => L env M1 fun lo M2 => U env M2 fun hi M3 => gSl x lo hi M3 Q
theorem RDs.cut {K : PySem.W.Frag} {G : Hp} {vs : List V} {ds : List Dv} (h : RDs K G vs ds) (lo hi : Option Int) : RDs K G (cutV vs lo hi) (cutD ds lo hi) := by
  unfold cutV cutD
  rw [h.len]
  exact (h.drop _).take _
theorem cutD_all {α : Type} {xs : List α} {lo hi : Option Int} (h : HT.sIx xs.length 0 lo = 0 ∧ HT.sIx xs.length xs.length hi = xs.length) : cutD xs lo hi = xs := by
  unfold cutD
  rw [h.1, h.2, List.drop_zero, Nat.sub_zero, List.take_length]
theorem sl_or {r u : V → Option Int → Option Int → Hp → VK → Prop} (h1 : SlR X r) (h2 : SlR X u) : SlR X (fun x lo hi H Q => r x lo hi H Q ∨ u x lo hi H Q) := by
  intro pins s σ H x v vl vu lo hi sl Q I rx hs pl pu h
  rcases h with h | h
  · exact h1 pins s σ H x v vl vu lo hi sl Q I rx hs pl pu h
  · exact h2 pins s σ H x v vl vu lo hi sl Q I rx hs pl pu h
theorem RDs.ints {K : PySem.W.Frag} {G : Hp} : ∀ ns : List Int, RDs K G (ns.map V.int) (ns.map Dv.int)
  | [] => .nil
  | n :: r => .cons (.int n) (RDs.ints r)
theorem cut_ints (ns : List Int) (l u : Option Int) : cutV (ns.map V.int) l u = (cutD ns l u).map V.int := by
  unfold cutV cutD
  rw [List.length_map, List.map_take, List.map_drop]
theorem d_slice {lo hi : Option Expr} {p2 : Pos} {tl th : TO} {L U : DP} (h : Ex X e te F) (hl : Pt X lo tl L) (hu : Pt X hi th U) :
    Ex X (.Subscript e (.Slice lo hi none p2) pos) (tSl (fun x lo hi H Q => rSlL X.K x lo hi H Q ∨ (rSlA X.K x lo hi H Q ∨ rSlS x lo hi H Q)) te tl th) (dSl F L U) := by
  refine ⟨pe_slice (sl_or sl_list (sl_or sl_tupA sl_str)) h.p hl.p hu.p, ?_⟩
  intro S σ H env M Q R rn hr f q
  refine h.r S σ H env M _ _ rn hr f fun x M1 v H1 f1 g1 r1 hr1 => ?_
  refine hl.r S σ H1 env M1 _ _ (rn.same g1.same) hr1 f1 fun l M2 H2 f2 g2 hr2 => ?_
  refine hu.r S σ H2 env M2 _ _ (rn.same (g1.trans g2).same) hr2 f2 fun u M3 H3 f3 g3 hr3 => ?_
  have r3 := RD.same (g2.trans g3).same _ _ r1
  have gg := (g1.trans g2).trans g3
  unfold gSl at f3
  split at f3
  · cases r3 with
    | tup ha ra =>
      refine .inr (.inl ⟨_, _, rfl, sqT_hid ha, fun z => ?_, fun _ p hp => ?_⟩)
      · rw [ra.len] at z
        rw [cutD_all z] at f3
        exact q _ M3 _ H3 f3 gg (.tup ha ra) hr3
      · obtain ⟨g4, hr4, rd⟩ := RD.newT hr3 hp (ra.cut l u)
        exact q _ M3 _ _ f3 (gg.trans g4) rd hr4
  · cases r3 with
    | lst ha ra =>
      refine .inl ⟨_, _, rfl, SqL.of (hid_some ha).1, fun p hp => ?_⟩
      obtain ⟨g4, hr4, rd⟩ := RD.newL hr3 hp (ra.cut l u)
      exact q _ M3 _ _ f3 (gg.trans g4) rd hr4
  · cases r3 with
    | scr ha =>
      refine .inl ⟨_, _, rfl, sqL_hid ha, fun p hp => ?_⟩
      rw [cut_ints]
      obtain ⟨g4, hr4, rd⟩ := RD.newL hr3 hp (RDs.ints (K := X.K) (G := hid S M3 H3) (cutD _ l u))
      exact q _ M3 _ _ f3 (gg.trans g4) rd hr4
  · cases r3
    exact .inr (.inr ⟨_, rfl, f3.1, q _ M3 _ H3 f3.2 gg (.str _) hr3⟩)
  · cases r3
    split at f3
    · rename_i e
      obtain ⟨w, z1, z2⟩ := hr3.obj _ _ e
      cases z2 with
      | lst ra =>
        refine .inl ⟨_, _, rfl, SqL.of z1, fun p hp => ?_⟩
        obtain ⟨g4, hr4, rd⟩ := RD.newL hr3 hp (ra.cut l u)
        exact q _ M3 _ _ f3 (gg.trans g4) rd hr4
    · exact f3.elim
  · exact f3.elim
end
end Vk
set_option linter.unusedVariables false
namespace Vk
open PySem PySem.Spec PyProof.Rows L2
/-! # The data layer: calls -/
abbrev DF := List Dv → MH → DK → Prop
def spD (K : PySem.W.Frag) (F : DF) : Sp := fun vs H Q _ => ∃ (S : Addr → Bool) (ds : List Dv) (M : MH) (R : DK), RDs K (hid S M H) vs ds ∧ HR K S M H ∧ F ds M R ∧
  ∀ d M' v H', R d M' → Gr S M H M' H' → RD K (hid S M' H') v d → HR K S M' H' → Q v H'
structure DCal (P : Program) (w : World) (K : PySem.W.Frag) (mg : Str → Option Value) (base : Heap) (x : Str) (k : Nat) (F : DF) : Prop where
  ex : ∃ (f : Addr) (fd : FuncData) (ps : List Str), Gk P w K mg base k f fd ps (spD K F) ∧ mg x = some (.ref f) ∧ PySem.W.keepIn K (.ref f) = true ∧ Binds K fd ps []
/-- a def by its address (a value) -/
structure DAt (P : Program) (w : World) (K : PySem.W.Frag) (mg : Str → Option Value) (base : Heap) (f : Addr) (k : Nat) (F : DF) : Prop where
  ex : ∃ (fd : FuncData) (ps : List Str), Gk P w K mg base k f fd ps (spD K F) ∧ PySem.W.keepIn K (.ref f) = true ∧ Binds K fd ps []
def dstart (N : List Str) (ds : List Dv) : DEnv := ds.map some ++ List.replicate (N.length - ds.length) none
theorem RN.start {K : PySem.W.Frag} {G : Hp} {vs : List V} {ds : List Dv} (N : List Str) (h : RDs K G vs ds) : RN K G (L2.start N vs) (dstart N ds) := by
  refine ⟨by unfold L2.start dstart; rw [List.length_append, List.length_append, List.length_map, List.length_map, List.length_replicate, List.length_replicate, h.len], fun i d e => ?_⟩
  unfold dstart at e
  by_cases c : i < ds.length
  · rw [List.getElem?_append_left (by rw [List.length_map]; exact c), List.getElem?_map] at e
    cases e2 : ds[i]? with
    | none => rw [e2] at e; cases e
    | some d' =>
      rw [e2] at e
      cases e
      obtain ⟨v, ev, rd⟩ := h.at e2
      refine ⟨v, ?_, rd⟩
      unfold L2.start
      rw [List.getElem?_append_left (by rw [List.length_map, h.len]; exact c), List.getElem?_map, ev]
      rfl
  · rw [List.getElem?_append_right (by rw [List.length_map]; omega), List.getElem?_replicate] at e
    split at e
    · cases e
    · cases e
/-- a def by its body -/
theorem dfun {P : Program} {w : World} {K : PySem.W.Frag} {mg : Str → Option Value} {base : Heap} {k : Nat} {f : Addr} {fd : FuncData} {ps N : List Str} {x qual : Str} {st : Stmt} {F : DF}
    (Fn : L2.Fun K x qual st f fd) (S : FnScope N ps (defScope st)) (len : ∀ ds M R, F ds M R → ds.length = ps.length)
    (body : ∀ (cd : Value) (A : Around) (out : List Env) (s : Shared) (H : Hp) (E : XK), (A.deeper (envOfC qual (defScope st) s.heap.objs.size f cd)).guards = some [] → Room k (A.deeper (envOfC qual (defScope st) s.heap.objs.size f cd)) →
      ∃ t G, Ss (cxOf CX0 P w K mg base N qual (defScope st) f cd A out s H E).nox (defBody st) t G ∧
        ∀ ds M (R : DK), F ds M R → G { nx := fun _ M' => R .non M', rt := R } (dstart N ds) M) : Gk P w K mg base (k + 1) f fd ps (spD K F) := by
  refine okG Fn S (fun vs H Q E h => ?_) (fun cd A out s H vs Q E hg hr h => ?_)
  · obtain ⟨S', ds, M, R, h1, _, h2, _⟩ := h
    rw [h1.len]
    exact len ds M R h2
  · obtain ⟨S', ds, M, R, h1, hr', h2, q⟩ := h
    obtain ⟨t, G, hs, hb⟩ := body cd A out s H E hg hr
    refine ⟨t, hs.p, ?_⟩
    refine hs.r S' (L2.start N vs) H (dstart N ds) M _ _ (RN.start N h1) hr' (hb ds M R h2) ⟨fun env' M' σ' H' e g rn hr2 => ?_, fun _ _ _ _ e _ _ _ => e.elim, fun _ _ _ _ e _ _ _ => e.elim, fun d M' v H' e g rd hr2 => q d M' v H' e g rd hr2⟩
    exact q .non M' .non H' e g .non hr2
section
variable {X : Cx} {a b c e : Expr} {es : List Expr} {ta tb tc te : TE} {tt : TA} {n k j : Nat} {A B C D : DE} {G : DA} {pos p : Pos} {F : DF} {x : Str}
def dCall (F : DF) (G : DA) : DE := fun env M Q => G env M fun ds M1 => F ds M1 Q
theorem RE.call {K : PySem.W.Frag} (h : RA K tt n G) : RE K (tCall (spD K F) [] E0 tt) (dCall F G) := by
  intro S σ H env M Q R rn hr f q
  refine h S σ H env M _ _ rn hr f fun ds M1 vs H1 f1 l1 g1 r1 hr1 => ?_
  show spD K F (vs ++ []) H1 Q E0
  rw [List.append_nil]
  exact ⟨S, ds, M1, R, r1, hr1, f1, fun d M' v H' h k rd hr' => q d M' v H' h (g1.trans k) rd hr'⟩
theorem d_call (hg : X.A.guards = some []) (C : DCal X.prog X.w X.K X.mg X.base x k F) (hr : Room j X.A) (gl : Gl X x) (h : As X (e :: es) tt n G) (hk : k ≤ j := by decide) (dbg : (x == ("__debug__" : Str)) = false := by decide)
    (st : starEach (e :: es) X.env = (false, eval e X.env) :: starEach es X.env := by rfl) (pl : (backTo pos (starEach es X.env)).any (·.1) = false := by rfl) : Ex X (.Call (.Name x p) (e :: es) [] pos) (tCall (spD X.K F) [] E0 tt) (dCall F G) := by
  obtain ⟨f, fd, ps, h1, h2, h3, h4⟩ := C.ex
  exact ⟨pe_callG hg h1 (hr.mono hk) gl h2 h3 h4 h.p dbg st pl, RE.call h.r⟩
/-- f() -/
theorem d_call0 (hg : X.A.guards = some []) (C : DCal X.prog X.w X.K X.mg X.base x k F) (hr : Room j X.A) (gl : Gl X x) (hk : k ≤ j := by decide) (dbg : (x == ("__debug__" : Str)) = false := by decide) :
    Ex X (.Call (.Name x p) [] [] pos) (tCall (spD X.K F) [] E0 tNil) (dCall F dANil) := by
  obtain ⟨f, fd, ps, h1, h2, h3, h4⟩ := C.ex
  refine ⟨⟨fun pins s σ H Q I h => ?_⟩, RE.call a_nil.r⟩
  refine wpAny_Call_Name_kw (ld_glob I gl h2 ?_ dbg)
  exact PySem.W.callWith_K0 I.kIn h3 (runG (us := []) hg h1 (hr.mono hk) h4 I .nil h)
/-- a local name that holds a def -/
def tCallD (i : Nat) (P : Addr → Sp → Prop) (t : TA) : TE := fun σ H Q => ∃ f sp, σ[i]? = some (some (.ref f)) ∧ P f sp ∧ t σ H fun vs H1 => sp vs H1 Q E0
def dCallV (i : Nat) (P : Addr → DF → Prop) (G : DA) : DE := fun env M Q => ∃ f F, env[i]? = some (some (.ref f)) ∧ P f F ∧ G env M fun ds M1 => F ds M1 Q
theorem d_callv (i : Nat) (hg : X.A.guards = some []) (hr : Room j X.A) (h : As X (e :: es) tt n G) (hN : X.N[i]? = some x := by rfl) (hv : Vis X.env.scope x := by first | exact Or.inl rfl | exact Or.inr (Or.inl rfl) | exact Or.inr (Or.inr rfl))
    (hd : (x == ("__debug__" : Str)) = false := by decide) (hcd : (x == ("__classdict__" : Str)) = false := by decide)
    (st : starEach (e :: es) X.env = (false, eval e X.env) :: starEach es X.env := by rfl) (pl : (backTo pos (starEach es X.env)).any (·.1) = false := by rfl) :
    Ex X (.Call (.Name x p) (e :: es) [] pos) (tCallD i (fun f sp => ∃ k F, k ≤ j ∧ DAt X.prog X.w X.K X.mg X.base f k F ∧ sp = spD X.K F) tt) (dCallV i (fun f F => ∃ k, k ≤ j ∧ DAt X.prog X.w X.K X.mg X.base f k F) G) := by
  refine ⟨⟨fun pins s σ H Q I h0 => ?_⟩, ?_⟩
  · obtain ⟨f, sp, hs, ⟨k, F, hk, ⟨fd, ps, h1, h3, h4⟩, rfl⟩, ht⟩ := h0
    refine wpAny_Call_Name_kw (thn ((pe_var (pos := p) hN hv hd hcd).run pins s σ H (fun v H1 => v = .ref f ∧ H1 = H) I ⟨.ref f, hs, rfl, rfl⟩) fun u s1 ⟨v, H1, I1, r1, q1⟩ => ?_)
    obtain ⟨rfl, rfl⟩ := q1
    cases r1
    refine PySem.W.callWith_K (h₀ := X.base) I.ok.mod.kin h3 (thn (h.p.run pos pins s1 σ _ _ I1 ht) fun us s2 ⟨vs, H2, I2, r, q⟩ => ⟨I2.kIn, ?_⟩) st pl
    exact runG hg h1 (hr.mono hk) h4 I2 r q
  · intro S σ H env M Q R rn hr' f q
    obtain ⟨f0, F, he, ⟨k, hk, hat⟩, f⟩ := f
    obtain ⟨v, ev, rd⟩ := rn.at_ i _ he
    cases rd
    refine ⟨f0, spD X.K F, ev, ⟨k, F, hk, hat, rfl⟩, ?_⟩
    refine h.r S σ H env M _ _ rn hr' f fun ds M1 vs H1 f1 l1 g1 r1 hr1 => ?_
    exact ⟨S, ds, M1, R, r1, hr1, f1, fun d M' v H' h k rd hr' => q d M' v H' h (g1.trans k) rd hr'⟩
/-! ## built-in ones -/
abbrev DL := List Dv → MH → DK → Prop
def RC (K : PySem.W.Frag) (r : List V → Hp → VK → Prop) (g : DL) : Prop := ∀ (S : Addr → Bool) (H : Hp) (vs : List V) (ds : List Dv) (M : MH) (Q : VK) (R : DK), RDs K (hid S M H) vs ds → HR K S M H → g ds M R →
  (∀ d M' v H', R d M' → Gr S M H M' H' → RD K (hid S M' H') v d → HR K S M' H' → Q v H') → r vs H Q
def dCB (g : DL) (G : DA) : DE := fun env M Q => G env M fun ds M1 => g ds M1 Q
theorem RE.cb {K : PySem.W.Frag} {r : List V → Hp → VK → Prop} {g : DL} (o : RC K r g) (h : RA K tt n G) : RE K (tCB r tt) (dCB g G) := by
  intro S σ H env M Q R rn hr f q
  refine h S σ H env M _ _ rn hr f fun ds M1 vs H1 f1 l1 g1 r1 hr1 => ?_
  exact o S H1 vs ds M1 Q R r1 hr1 f1 fun d M' v H' h k rd hr' => q d M' v H' h (g1.trans k) rd hr'
structure Cb (X : Cx) (f : Value) (r : List V → Hp → VK → Prop) (g : DL) : Prop where
  p : CallR X f r
  r : RC X.K r g
theorem d_cb {id : String} {r : List V → Hp → VK → Prop} {g : DL} (o : Cb X (.builtin id) r g) (hg : Gl X x) (hm : X.mg x = none) (hv : bootBuiltins x = some (.builtin id)) (h : As X (e :: es) tt n G) (hn : x ≠ "__name__" := by decide) (hdb : (x == ("__debug__" : Str)) = false := by decide)
    (he : starEach (e :: es) X.env = (false, eval e X.env) :: starEach es X.env := by rfl) (hpl : (backTo pos (starEach es X.env)).any (·.1) = false := by rfl) : Ex X (.Call (.Name x p) (e :: es) [] pos) (tCB r tt) (dCB g G) :=
  ⟨pe_callB o.p hg hm hv h.p hn hdb he hpl, RE.cb o.r h.r⟩
theorem d_cty {T : String} {r : List V → Hp → VK → Prop} {g : DL} (o : Cb X (.type T) r g) (hg : Gl X x) (hm : X.mg x = none) (hv : bootBuiltins x = some (.type T)) (h : As X (e :: es) tt n G) (hn : x ≠ "__name__" := by decide) (hdb : (x == ("__debug__" : Str)) = false := by decide)
    (he : starEach (e :: es) X.env = (false, eval e X.env) :: starEach es X.env := by rfl) (hpl : (backTo pos (starEach es X.env)).any (·.1) = false := by rfl) : Ex X (.Call (.Name x p) (e :: es) [] pos) (tCB r tt) (dCB g G) :=
  ⟨pe_callTy o.p hg hm hv h.p hn hdb he hpl, RE.cb o.r h.r⟩
def gLen : DL := fun ds M Q => match ds with
  | [.tup xs] => Q (.int (xs.length : Nat)) M
  | [.lst xs] => Q (.int (xs.length : Nat)) M
  | [.scr xs] => Q (.int (xs.length : Nat)) M
  | [.str y] => y.length ≤ sizeLine ∧ Q (.int (y.length : Nat)) M
  | [.ref p] => match M p with
    | some (.lst xs) => Q (.int (xs.length : Nat)) M
    | _ => False
  | _ => False
theorem RDs.one {K : PySem.W.Frag} {H : Hp} {vs : List V} {d : Dv} (h : RDs K H vs [d]) : ∃ v, vs = [v] ∧ RD K H v d := by
  cases h with
  | cons a b => cases b; exact ⟨_, rfl, a⟩
theorem RDs.two {K : PySem.W.Frag} {H : Hp} {vs : List V} {d e : Dv} (h : RDs K H vs [d, e]) : ∃ v w, vs = [v, w] ∧ RD K H v d ∧ RD K H w e := by
  cases h with
  | cons a b => cases b with
    | cons b c => cases c; exact ⟨_, _, rfl, a, b⟩
theorem c_len : Cb X (.builtin "len") (fun xs H Q => ∃ x n, xs = [x] ∧ LenV X.K x H n ∧ Q (.int n) H) gLen := by
  refine ⟨call_len, ?_⟩
  intro S H vs ds M Q R rs hr f q
  unfold gLen at f
  split at f
  · obtain ⟨v, rfl, rd⟩ := rs.one
    cases rd with
    | tup ha ra => exact ⟨_, _, rfl, .inr ⟨_, sqT_hid ha, rfl⟩, q _ M _ H f Gr.refl (by rw [ra.len]; exact .int _) hr⟩
  · obtain ⟨v, rfl, rd⟩ := rs.one
    cases rd with
    | lst ha ra => exact ⟨_, _, rfl, .inl ⟨_, SqL.of (hid_some ha).1, rfl⟩, q _ M _ H f Gr.refl (by rw [ra.len]; exact .int _) hr⟩
  · obtain ⟨v, rfl, rd⟩ := rs.one
    cases rd with
    | scr ha => exact ⟨_, _, rfl, .inl ⟨_, sqL_hid ha, rfl⟩, q _ M _ H f Gr.refl (by rw [List.length_map]; exact .int _) hr⟩
  · obtain ⟨v, rfl, rd⟩ := rs.one
    cases rd
    exact ⟨_, _, rfl, ⟨f.1, rfl⟩, q _ M _ H f.2 Gr.refl (.int _) hr⟩
  · split at f
    · rename_i e
      obtain ⟨v, rfl, rd⟩ := rs.one
      cases rd
      obtain ⟨w, z1, z2⟩ := hr.obj _ _ e
      cases z2 with
      | lst ra => exact ⟨_, _, rfl, .inl ⟨_, SqL.of z1, rfl⟩, q _ M _ H f Gr.refl (by rw [ra.len]; exact .int _) hr⟩
    · exact f.elim
  · exact f.elim
def gTupOf : DL := fun ds M Q => match ds with
  | [.tup xs] => Q (.tup xs) M
  | [.lst xs] => Q (.tup xs) M
  | [.scr ns] => Q (.tup (ns.map .int)) M
  | [.ref p] => match M p with
    | some (.lst xs) => Q (.tup xs) M
    | _ => False
  | _ => False
theorem c_tuple : Cb X (.type "tuple") (fun xs H Q => ∃ p ys, xs = [.ref p] ∧ ((SqL X.K H p ys ∧ ∀ l, H l = none → Q (.ref l) (upd H l (.tup ys))) ∨ (SqT X.K H p ys ∧ Q (.ref p) H))) gTupOf := by
  refine ⟨call_tuple_of, ?_⟩
  intro S H vs ds M Q R rs hr f q
  unfold gTupOf at f
  split at f
  · obtain ⟨v, rfl, rd⟩ := rs.one
    cases rd with
    | tup ha ra => exact ⟨_, _, rfl, .inr ⟨sqT_hid ha, q _ M _ H f Gr.refl (.tup ha ra) hr⟩⟩
  · obtain ⟨v, rfl, rd⟩ := rs.one
    cases rd with
    | lst ha ra =>
      refine ⟨_, _, rfl, .inl ⟨SqL.of (hid_some ha).1, fun l hl => ?_⟩⟩
      obtain ⟨g, hr', rd⟩ := RD.newT hr hl ra
      exact q _ M _ _ f g rd hr'
  · obtain ⟨v, rfl, rd⟩ := rs.one
    cases rd with
    | scr ha =>
      refine ⟨_, _, rfl, .inl ⟨sqL_hid ha, fun l hl => ?_⟩⟩
      obtain ⟨g, hr', rd⟩ := RD.newT hr hl (RDs.ints (K := X.K) (G := hid S M H) _)
      exact q _ M _ _ f g rd hr'
  · split at f
    · rename_i e
      obtain ⟨v, rfl, rd⟩ := rs.one
      cases rd
      obtain ⟨w, z1, z2⟩ := hr.obj _ _ e
      cases z2 with
      | lst ra =>
        refine ⟨_, _, rfl, .inl ⟨SqL.of z1, fun l hl => ?_⟩⟩
        obtain ⟨g, hr', rd⟩ := RD.newT hr hl ra
        exact q _ M _ _ f g rd hr'
    · exact f.elim
  · exact f.elim
def gLstOf : DL := fun ds M Q => match ds with
  | [.tup xs] => Q (.lst xs) M
  | [.lst xs] => Q (.lst xs) M
  | [.scr ns] => Q (.lst (ns.map .int)) M
  | [.ref p] => match M p with
    | some (.lst xs) => Q (.lst xs) M
    | _ => False
  | _ => False
theorem c_list : Cb X (.type "list") (fun xs H Q => ∃ p ys, xs = [.ref p] ∧ (SqL X.K H p ys ∨ SqT X.K H p ys) ∧ ∀ l, H l = none → Q (.ref l) (upd H l (.lst ys))) gLstOf := by
  refine ⟨call_list_of, ?_⟩
  intro S H vs ds M Q R rs hr f q
  unfold gLstOf at f
  split at f
  · obtain ⟨v, rfl, rd⟩ := rs.one
    cases rd with
    | tup ha ra =>
      refine ⟨_, _, rfl, .inr (sqT_hid ha), fun l hl => ?_⟩
      obtain ⟨g, hr', rd⟩ := RD.newL hr hl ra
      exact q _ M _ _ f g rd hr'
  · obtain ⟨v, rfl, rd⟩ := rs.one
    cases rd with
    | lst ha ra =>
      refine ⟨_, _, rfl, .inl (SqL.of (hid_some ha).1), fun l hl => ?_⟩
      obtain ⟨g, hr', rd⟩ := RD.newL hr hl ra
      exact q _ M _ _ f g rd hr'
  · obtain ⟨v, rfl, rd⟩ := rs.one
    cases rd with
    | scr ha =>
      refine ⟨_, _, rfl, .inl (sqL_hid ha), fun l hl => ?_⟩
      obtain ⟨g, hr', rd⟩ := RD.newL hr hl (RDs.ints (K := X.K) (G := hid S M H) _)
      exact q _ M _ _ f g rd hr'
  · split at f
    · rename_i e
      obtain ⟨v, rfl, rd⟩ := rs.one
      cases rd
      obtain ⟨w, z1, z2⟩ := hr.obj _ _ e
      cases z2 with
      | lst ra =>
        refine ⟨_, _, rfl, .inl (SqL.of z1), fun l hl => ?_⟩
        obtain ⟨g, hr', rd⟩ := RD.newL hr hl ra
        exact q _ M _ _ f g rd hr'
    · exact f.elim
  · exact f.elim
theorem rds_bools {K : PySem.W.Frag} {G : Hp} : ∀ {bs : List Bool} {vs : List V}, RDs K G vs (bs.map Dv.bl) → vs = bs.map V.bl
  | [], _, h => by cases h; rfl
  | b :: r, _, h => by
    cases h with
    | cons a t => cases a; rw [rds_bools t]; rfl
def gAll (k : List Bool → Bool) : DL := fun ds M Q => ∃ bs : List Bool, ds = [.lst (bs.map .bl)] ∧ Q (.bl (k bs)) M
theorem c_all (hc : X.calm = true) : Cb X (.builtin "all") (rAll X.K) (gAll fun bs => bs.all id) := by
  refine ⟨cr_all hc, ?_⟩
  intro S H vs ds M Q R rs hr f q
  obtain ⟨bs, rfl, f⟩ := f
  obtain ⟨v, rfl, rd⟩ := rs.one
  cases rd with
  | lst ha ra =>
    rw [rds_bools ra] at ha
    exact ⟨_, bs, rfl, SqL.of (hid_some ha).1, q _ M _ H f Gr.refl (.bl _) hr⟩
theorem c_any (hc : X.calm = true) : Cb X (.builtin "any") (rAny X.K) (gAll fun bs => bs.any id) := by
  refine ⟨cr_any hc, ?_⟩
  intro S H vs ds M Q R rs hr f q
  obtain ⟨bs, rfl, f⟩ := f
  obtain ⟨v, rfl, rd⟩ := rs.one
  cases rd with
  | lst ha ra =>
    rw [rds_bools ra] at ha
    exact ⟨_, bs, rfl, SqL.of (hid_some ha).1, q _ M _ H f Gr.refl (.bl _) hr⟩
def gOrd : DL := fun ds M Q => match ds with | [.str y] => y.length = 1 ∧ Q (.int (y.cps.getD 0 0 : Nat)) M | _ => False
theorem c_ord : Cb X (.builtin "ord") (fun xs H Q => ∃ x, xs = [.str x] ∧ x.length = 1 ∧ Q (.int (x.cps.getD 0 0 : Nat)) H) gOrd := by
  refine ⟨call_ord, ?_⟩
  intro S H vs ds M Q R rs hr f q
  unfold gOrd at f
  split at f
  · obtain ⟨v, rfl, rd⟩ := rs.one
    cases rd
    exact ⟨_, rfl, f.1, q _ M _ H f.2 Gr.refl (.int _) hr⟩
  · exact f.elim
def gInt : DL := fun ds M Q => match ds with | [.int i] => Q (.int i) M | [.bl k] => Q (.int (if k then 1 else 0)) M | _ => False
theorem c_int : Cb X (.type "int") (fun xs H Q => (∃ i, xs = [.int i] ∧ Q (.int i) H) ∨ ∃ k, xs = [.bl k] ∧ Q (.int (if k then 1 else 0)) H) gInt := by
  refine ⟨call_int1, ?_⟩
  intro S H vs ds M Q R rs hr f q
  unfold gInt at f
  split at f
  · obtain ⟨v, rfl, rd⟩ := rs.one
    cases rd
    exact .inl ⟨_, rfl, q _ M _ H f Gr.refl (.int _) hr⟩
  · obtain ⟨v, rfl, rd⟩ := rs.one
    cases rd
    exact .inr ⟨_, rfl, q _ M _ H f Gr.refl (.int _) hr⟩
  · exact f.elim
def gII (k : Int → Int → Int) : DL := fun ds M Q => match ds with | [.int i, .int j] => Q (.int (k i j)) M | _ => False
theorem c_max (hc : X.calm = true) : Cb X (.builtin "max") (fun xs H Q => ∃ i j, xs = [.int i, .int j] ∧ Q (.int (if j > i then j else i)) H) (gII fun i j => if j > i then j else i) := by
  refine ⟨call_max2 hc, ?_⟩
  intro S H vs ds M Q R rs hr f q
  unfold gII at f
  split at f
  · obtain ⟨v, w, rfl, rd, rd2⟩ := rs.two
    cases rd
    cases rd2
    exact ⟨_, _, rfl, q _ M _ H f Gr.refl (.int _) hr⟩
  · exact f.elim
theorem c_min (hc : X.calm = true) : Cb X (.builtin "min") (fun xs H Q => ∃ i j, xs = [.int i, .int j] ∧ Q (.int (if j < i then j else i)) H) (gII fun i j => if j < i then j else i) := by
  refine ⟨call_min2 hc, ?_⟩
  intro S H vs ds M Q R rs hr f q
  unfold gII at f
  split at f
  · obtain ⟨v, w, rfl, rd, rd2⟩ := rs.two
    cases rd
    cases rd2
    exact ⟨_, _, rfl, q _ M _ H f Gr.refl (.int _) hr⟩
  · exact f.elim
/-! ## kinds -/
def tyN (M : MH) : Dv → Option String
  | .non => some "NoneType"
  | .bl _ => some "bool"
  | .int _ => some "int"
  | .str _ => some "str"
  | .tup _ => some "tuple"
  | .lst _ => some "list"
  | .scr _ => some "list"
  | .ref p => match M p with
    | some (.lst _) => some "list"
    | some (.dK _) => some "dict"
    | _ => none
  | .ty _ => none
theorem RD.ty_ {K : PySem.W.Frag} {S : Addr → Bool} {M : MH} {H : Hp} {v : V} {d : Dv} {n : String} (hr : HR K S M H) (h : RD K (hid S M H) v d) (e : tyN M d = some n) : TyX K H v (.type n) := by
  cases h with
  | non => cases e; exact .base .non
  | bl b => cases e; exact .base (.bl b)
  | int i => cases e; exact .base (.int i)
  | str x => cases e; exact .base (.str x)
  | tup ha ra => cases e; exact sqT_ty (sqT_hid ha)
  | lst ha ra => cases e; exact .base (.lst (hid_some ha).1)
  | scr ha =>
    cases e
    rcases sqL_hid ha with (h | ⟨o, h⟩) | ⟨o, its, n, h1, h2, _⟩
    · exact .base (.lst h)
    · exact .base (.frz h)
    · exact .kList h1 h2
  | ref a =>
    unfold tyN at e
    simp only at e
    split at e
    · rename_i e1
      cases e
      obtain ⟨w, z1, z2⟩ := hr.obj _ _ e1
      cases z2
      exact .base (.lst z1)
    · rename_i e1
      cases e
      obtain ⟨w, z1, z2⟩ := hr.obj _ _ e1
      cases z2
      exact .base (.dK z1)
    · cases e
  | ty m => cases e
def kitv (a n : String) : Bool := a == n || (a == "bool" && n == "int")
theorem kit_names {K : PySem.W.Frag} {a n : String} (ha : a ∈ ["NoneType", "bool", "int", "str", "tuple", "list", "dict"]) (hn : n ∈ ["bool", "int", "str", "tuple", "list", "dict"]) : PySem.W.kitOne K (.type a) (.type n) = some (kitv a n) := by
  simp only [List.mem_cons, List.not_mem_nil, or_false] at ha hn
  rcases ha with rfl | rfl | rfl | rfl | rfl | rfl | rfl <;> rcases hn with rfl | rfl | rfl | rfl | rfl | rfl <;> exact kit_ty (by decide +kernel)
theorem tyN_mem {M : MH} {d : Dv} {a : String} (e : tyN M d = some a) : a ∈ ["NoneType", "bool", "int", "str", "tuple", "list", "dict"] := by
  unfold tyN at e
  split at e
  all_goals first
    | (cases e; done)
    | (cases e; decide)
    | (split at e <;> first | (cases e; done) | (cases e; decide))
def gIsi : DL := fun ds M Q => match ds with
  | [x, .ty n] => n ∈ ["bool", "int", "str", "tuple", "list", "dict"] ∧ match tyN M x with | some a => Q (.bl (kitv a n)) M | none => False
  | _ => False
theorem c_isi : Cb X (.builtin "isinstance") (rIsi X.K) gIsi := by
  refine ⟨call_isi, ?_⟩
  intro S H vs ds M Q R rs hr f q
  unfold gIsi at f
  split at f
  · obtain ⟨hn, f⟩ := f
    split at f
    · rename_i e
      obtain ⟨v, w, rfl, rd, rd2⟩ := rs.two
      cases rd2
      exact ⟨_, _, _, _, _, rfl, .ty _, rd.ty_ hr e, kit_names (tyN_mem e) hn, q _ M _ H f Gr.refl (.bl _) hr⟩
    · exact f.elim
  · exact f.elim
theorem d_tyname {x : Str} {n : String} {pos : Pos} (hg : Gl X x) (hm : X.mg x = none) (hv : bootBuiltins x = some (.type n)) (hn : x ≠ "__name__" := by decide) (hd : (x == ("__debug__" : Str)) = false := by decide) : Ex X (.Name x pos) (tC (.ty n)) (dC (.ty n)) :=
  ⟨pe_bltn (v := .ty n) hg hm hv rfl hn hd, RE.con fun _ => .ty n⟩
end
end Vk
set_option linter.unusedVariables false
namespace Vk
open PySem PySem.Spec PyProof.Rows L2
/-! # The data layer: statements -/
/-! ## targets -/
abbrev DG := Dv → DEnv → MH → (DEnv → MH → Prop) → Prop
abbrev DGs := List Dv → DEnv → MH → (DEnv → MH → Prop) → Prop
/-- ws: the slots that are written -/
def RG (K : PySem.W.Frag) (g : TG) (ws : List Nat) (F : DG) : Prop := ∀ (S : Addr → Bool) (σ : L2.St) (H : Hp) (v : V) (d : Dv) (env : DEnv) (M : MH) (Q : L2.St → Hp → Prop) (R : DEnv → MH → Prop),
  RD K (hid S M H) v d → RN K (hid S M H) σ env → HR K S M H → F d env M R →
  (∀ env' M' σ' H', R env' M' → Gr S M H M' H' → RN K (hid S M' H') σ' env' → HR K S M' H' → (σ'.length = σ.length ∧ ∀ i, i ∉ ws → σ'[i]? = σ[i]?) → Q σ' H') → g v σ H Q
def RGs (K : PySem.W.Frag) (g : TGs) (ws : List Nat) (F : DGs) : Prop := ∀ (S : Addr → Bool) (σ : L2.St) (H : Hp) (vs : List V) (ds : List Dv) (env : DEnv) (M : MH) (Q : L2.St → Hp → Prop) (R : DEnv → MH → Prop),
  RDs K (hid S M H) vs ds → RN K (hid S M H) σ env → HR K S M H → F ds env M R →
  (∀ env' M' σ' H', R env' M' → Gr S M H M' H' → RN K (hid S M' H') σ' env' → HR K S M' H' → (σ'.length = σ.length ∧ ∀ i, i ∉ ws → σ'[i]? = σ[i]?) → Q σ' H') → g vs σ H Q
structure Tg (X : Cx) (e : Expr) (g : TG) (ws : List Nat) (F : DG) : Prop where
  p : PG X e g
  r : RG X.K g ws F
structure Tgs (X : Cx) (es : List Expr) (g : TGs) (ws : List Nat) (F : DGs) : Prop where
  p : PGs X es g
  r : RGs X.K g ws F
def sName (i : Nat) : DG := fun d env M Q => Q (env.set i (some d)) M
def sNil : DGs := fun ds env M Q => match ds with | [] => Q env M | _ => False
def sCons (F : DG) (Fs : DGs) : DGs := fun ds env M Q => match ds with | d :: r => F d env M fun env1 M1 => Fs r env1 M1 Q | [] => False
def sTup (n : Nat) (Fs : DGs) : DG := fun d env M Q => match d with | .tup ds => ds.length = n ∧ Fs ds env M Q | _ => False
theorem RG.name {K : PySem.W.Frag} (i : Nat) : RG K (gName i) [i] (sName i) := by
  intro S σ H v d env M Q R rd rn hr f q
  exact q _ M _ H f Gr.refl (rn.set rd i) hr ⟨List.length_set, fun j hj => List.getElem?_set_ne (fun z => hj (by rw [z]; exact List.mem_singleton.mpr rfl))⟩
theorem RGs.nil {K : PySem.W.Frag} : RGs K gNil [] sNil := by
  intro S σ H vs ds env M Q R rs rn hr f q
  unfold sNil at f
  split at f
  · cases rs
    exact ⟨rfl, q _ M _ H f Gr.refl rn hr ⟨rfl, fun _ _ => rfl⟩⟩
  · exact f.elim
theorem RGs.cons {K : PySem.W.Frag} {g : TG} {gs : TGs} {ws ws' : List Nat} {F : DG} {Fs : DGs} (h1 : RG K g ws F) (h2 : RGs K gs ws' Fs) : RGs K (gCons g gs) (ws ++ ws') (sCons F Fs) := by
  intro S σ H vs ds env M Q R rs rn hr f q
  unfold sCons at f
  split at f
  · cases rs with
    | cons a b =>
      refine ⟨_, _, rfl, h1 S σ H _ _ env M _ _ a rn hr f fun env1 M1 σ1 H1 f1 g1 rn1 hr1 k1 => ?_⟩
      exact h2 S σ1 H1 _ _ env1 M1 _ _ (RDs.same g1.same _ _ b) rn1 hr1 f1 fun env2 M2 σ2 H2 f2 g2 rn2 hr2 k2 =>
        q env2 M2 σ2 H2 f2 (g1.trans g2) rn2 hr2 ⟨k2.1.trans k1.1, fun i hi => (k2.2 i fun z => hi (List.mem_append.mpr (.inr z))).trans (k1.2 i fun z => hi (List.mem_append.mpr (.inl z)))⟩
  · exact f.elim
theorem RG.tup {K : PySem.W.Frag} {n : Nat} {gs : TGs} {ws : List Nat} {Fs : DGs} (h : RGs K gs ws Fs) : RG K (gTup K n gs) ws (sTup n Fs) := by
  intro S σ H v d env M Q R rd rn hr f q
  unfold sTup at f
  split at f
  · cases rd with
    | tup ha ra => exact ⟨_, _, rfl, sqT_hid ha, by rw [ra.len]; exact f.1, h S σ H _ _ env M Q R ra rn hr f.2 q⟩
  · exact f.elim
section
variable {X : Cx} {a b c e : Expr} {es : List Expr} {ta tb tc te : TE} {ti tj : TT} {tt : TA} {n k j : Nat} {A B C D : DE} {I J : DT} {G : DA} {pos p : Pos} {F : DF} {x : Str} {st : Stmt} {sts us : List Stmt} {t u : TS} {T U : DS}
theorem g_name (i : Nat) (hN : X.N.Nodup) (hi : X.N[i]? = some x := by rfl) (hx : Loc X.env.scope x := by first | exact Or.inl rfl | exact Or.inr rfl) (hf : X.fn x = true ∨ X.env.scope.names.lookup x = some .local := by first | exact .inl rfl | exact .inr rfl | assumption) : Tg X (.Name x pos) (gName i) [i] (sName i) :=
  ⟨pg_name hN hi hx hf, RG.name i⟩
theorem gs_nil : Tgs X [] gNil [] sNil := ⟨pgs_nil, RGs.nil⟩
theorem gs_cons {g : TG} {gs : TGs} {ws ws' : List Nat} {F : DG} {Fs : DGs} (h1 : Tg X e g ws F) (h2 : Tgs X es gs ws' Fs)
    (hs : (assignEach (e :: es) X.env).map (·.2) = assign e X.env :: (assignEach es X.env).map (·.2) := by rfl) : Tgs X (e :: es) (gCons g gs) (ws ++ ws') (sCons F Fs) := ⟨pgs_cons h1.p h2.p hs, RGs.cons h1.r h2.r⟩
theorem g_tup {es : List Expr} {k : Nat} {gs : TGs} {ws : List Nat} {Fs : DGs} {n : Nat} (hc : X.calm = true) (h : Tgs X es gs ws Fs)
    (hn : (assignEach es X.env).length = n := by rfl) (hst : (assignEach es X.env).findIdx? (·.1) = none := by rfl) : Tg X (.Tuple es k pos) (gTup X.K n gs) ws (sTup n Fs) := ⟨pg_tup hc h.p hn hst, RG.tup h.r⟩
/-! ## simple statements -/
def dNext : DS := fun E env M => E.nx env M
def dSeq (T U : DS) : DS := fun E env M => T { E with nx := U E } env M
def dRet (A : DE) : DS := fun E env M => A env M E.rt
def dRetN : DS := fun E _ M => E.rt .non M
def dDrop (A : DE) : DS := fun E env M => A env M fun _ M1 => E.nx env M1
def dSet (i : Nat) (A : DE) : DS := fun E env M => A env M fun x M1 => E.nx (env.set i (some x)) M1
def dIfS (I : DT) (T U : DS) : DS := fun E env M => I env M fun k M1 => if k = true then T E env M1 else U E env M1
def dAsg (A : DE) (g : DG) : DS := fun E env M => A env M fun x M1 => g x env M1 E.nx
def dBrk : DS := fun E env M => E.bk env M
def dCnt : DS := fun E env M => E.ct env M
theorem ss_nil : Ss X [] tNext dNext := ⟨pss_nil, fun S σ H env M D E rn hr f c => c.nx env M σ H f Gr.refl rn hr⟩
theorem ss_cons (h1 : Sm X st t T) (h2 : Ss X sts u U) : Ss X (st :: sts) (tSeq t u) (dSeq T U) := by
  refine ⟨pss_cons h1.p h2.p, ?_⟩
  intro S σ H env M D E rn hr f c
  refine h1.r S σ H env M _ _ rn hr f ⟨fun env' M' σ' H' e g rn' hr' => ?_, c.bk, c.ct, c.rt⟩
  exact h2.r S σ' H' env' M' D E rn' hr' e (c.from g)
theorem ss_one (h1 : Sm X st t T) : Ss X [st] t T := ⟨pss_one h1.p, h1.r⟩
theorem s_ret (h : Ex X e te A) : Sm X (.Return (some e) pos) (tRet te) (dRet A) := by
  refine ⟨ps_ret h.p, ?_⟩
  intro S σ H env M D E rn hr f c
  exact h.r S σ H env M _ _ rn hr f fun d M' v H' e g rd hr' => c.rt d M' v H' e g rd hr'
theorem s_retN : Sm X (.Return none pos) tRetN dRetN := ⟨ps_retN, fun S σ H env M D E rn hr f c => c.rt .non M .non H f Gr.refl .non hr⟩
theorem s_expr (h : Ex X e te A) (hs : swapsWith e none pos.line X.env = pure false := by rfl) : Sm X (.Expr e pos) (tDrop te) (dDrop A) := by
  refine ⟨ps_expr h.p hs, ?_⟩
  intro S σ H env M D E rn hr f c
  exact h.r S σ H env M _ _ rn hr f fun d M' v H' e g rd hr' => c.nx env M' σ H' e g (rn.same g.same) hr'
theorem s_set {i : Nat} {pos' : Pos} (hN : X.N.Nodup) (hi : X.N[i]? = some x) (hx : Loc X.env.scope x) (h : Ex X e te A) (hs : swapsWith e (some (.Name x pos')) pos.line X.env = pure false := by rfl)
    (hf : X.fn x = true ∨ X.env.scope.names.lookup x = some .local := by first | exact .inl rfl | exact .inr rfl | assumption) : Sm X (.Assign [.Name x pos'] e pos) (tAsg te (gName i)) (dSet i A) := by
  refine ⟨ps_set (i := i) hN hi hx h.p hs hf, ?_⟩
  intro S σ H env M D E rn hr f c
  refine h.r S σ H env M _ _ rn hr f fun d M' v H' e g rd hr' => ?_
  exact c.nx _ M' _ H' e g ((rn.same g.same).set rd i) hr'
theorem s_if {sa sb : List Stmt} (h0 : Ts X c ti I) (h1 : Ss X sa t T) (h2 : Ss X sb u U) : Sm X (.If c sa sb pos) (tIfS ti t u) (dIfS I T U) := by
  refine ⟨ps_if h0.p h1.p h2.p, ?_⟩
  intro S σ H env M D E rn hr f c
  refine h0.r S σ H env M _ _ rn hr f fun k M1 H1 f1 g1 hr1 => ?_
  split at f1
  · rename_i e
    rw [if_pos e]
    exact h1.r S σ H1 env M1 D E (rn.same g1.same) hr1 f1 (c.from g1)
  · rename_i e
    rw [if_neg e]
    exact h2.r S σ H1 env M1 D E (rn.same g1.same) hr1 f1 (c.from g1)
theorem s_asg {tg : Expr} {g : TG} {ws : List Nat} {Fg : DG} (h : Ex X e te A) (hg : Tg X tg g ws Fg) (hs : swapsWithSole [tg] e pos.line X.env = pure false := by rfl) (hw : swappedStores [tg] e X.env = pure none := by rfl) (h1 : List.map (·.2) (assignEach [tg] X.env) = [assign tg X.env] := by rfl) :
    Sm X (.Assign [tg] e pos) (tAsg te g) (dAsg A Fg) := by
  refine ⟨ps_asg h.p hg.p hs hw (h1 := h1), ?_⟩
  intro S σ H env M D E rn hr f c
  refine h.r S σ H env M _ _ rn hr f fun d M' v H' e g rd hr' => ?_
  exact hg.r S σ H' v d env M' _ _ rd (rn.same g.same) hr' e fun env2 M2 σ2 H2 e2 g2 rn2 hr2 _ => c.nx env2 M2 σ2 H2 e2 (g.trans g2) rn2 hr2
theorem s_brk : Sm X (.Break pos) tBreak dBrk := ⟨ps_break, fun S σ H env M D E rn hr f c => c.bk env M σ H f Gr.refl rn hr⟩
theorem s_cnt : Sm X (.Continue pos) tCont dCnt := ⟨ps_continue, fun S σ H env M D E rn hr f c => c.ct env M σ H f Gr.refl rn hr⟩
theorem s_pass : Sm X (.Pass pos) tNext dNext := ⟨ps_pass, fun S σ H env M D E rn hr f c => c.nx env M σ H f Gr.refl rn hr⟩
/-! ## what is walked -/
abbrev DI := DEnv → MH → (List Dv → (MH → Prop) → MH → Prop) → Prop
structure Walks (K : PySem.W.Frag) (G : Hp) (J : It) (items : List Dv) (inv : MH → Prop) : Prop where
  go : ∀ i d, items[i]? = some d → ∀ S2 M2 H2, Same G (hid S2 M2 H2) → HR K S2 M2 H2 → inv M2 → J.go i H2 ∧ ∀ x H3, J.yld i H2 x H3 → Gr S2 M2 H2 M2 H3 ∧ HR K S2 M2 H3 ∧ RD K (hid S2 M2 H3) x d
  stop : ∀ S2 M2 H2, Same G (hid S2 M2 H2) → HR K S2 M2 H2 → inv M2 → J.stop items.length H2
def RI (K : PySem.W.Frag) (wi : TI) (F : DI) : Prop := ∀ (S : Addr → Bool) (σ : L2.St) (H : Hp) (env : DEnv) (M : MH) (Q : It → Hp → Prop) (R : List Dv → (MH → Prop) → MH → Prop), RN K (hid S M H) σ env → HR K S M H → F env M R →
  (∀ items inv M' J H', R items inv M' → Gr S M H M' H' → HR K S M' H' → Walks K (hid S M' H') J items inv → Q J H') → wi σ H Q
structure Wk (X : Cx) (tg e : Expr) (wi : TI) (F : DI) : Prop where
  p : PI X tg e wi
  r : RI X.K wi F
@[irreducible] def dFor (W : DI) (g : DG) (body : DS) : DS := fun E env M => W env M fun items inv M1 => ∃ I : Nat → DEnv → MH → Prop, I 0 env M1 ∧ (∀ i env M, I i env M → inv M) ∧
  (∀ i d env M, items[i]? = some d → I i env M → g d env M fun env1 M1 => body { E with nx := I (i + 1), ct := I (i + 1), bk := E.nx } env1 M1) ∧ ∀ env M, I items.length env M → E.nx env M
theorem s_for {tg it : Expr} {body : List Stmt} {wi : TI} {g : TG} {ws : List Nat} {W : DI} {Fg : DG} (hp : PassesOwn (model X.prog X.w) X.A X.env X.xe) (hc : X.calm = true) (hi : Wk X tg it wi W) (hg : Tg X tg g ws Fg) (hb : Ss X body t T)
    (hs : ∀ x, foldedSetIterable it X.env x = pure x := by intro _; rfl) : Sm X (.For tg it body [] pos) (tFor wi g t) (dFor W Fg T) := by
  refine ⟨ps_for hp hc hi.p hg.p hb.p hs, ?_⟩
  intro S σ H env M D E rn hr f c
  unfold dFor at f
  refine hi.r S σ H env M _ _ rn hr f fun items inv M1 J H1 f1 g1 hr1 wk => ?_
  obtain ⟨I, h0, hin, step, fin⟩ := f1
  refine ⟨fun i m σ' H' => ∃ env' M', I i env' M' ∧ m = items.length - i ∧ i ≤ items.length ∧ Gr S M1 H1 M' H' ∧ RN X.K (hid S M' H') σ' env' ∧ HR X.K S M' H', ⟨_, env, M1, h0, rfl, Nat.zero_le _, Gr.refl, rn.same g1.same, hr1⟩, ?_⟩
  rintro i m σ2 H2 ⟨env2, M2, h2, rfl, hi2, g2, rn2, hr2⟩
  rcases Nat.lt_or_eq_of_le hi2 with hlt | heq
  · refine .inr ?_
    have hd : items[i]? = some items[i] := List.getElem?_eq_getElem hlt
    obtain ⟨w1, w2⟩ := wk.go i _ hd S M2 H2 g2.same hr2 (hin _ _ _ h2)
    refine ⟨w1, fun σ' H' => ∃ env' M', I (i + 1) env' M' ∧ Gr S M1 H1 M' H' ∧ RN X.K (hid S M' H') σ' env' ∧ HR X.K S M' H', fun σ' H' ⟨e', M', y1, y2, y3, y4⟩ => ⟨items.length - (i + 1), by omega, e', M', y1, rfl, hlt, y2, y3, y4⟩, fun x H3 hy => ?_⟩
    obtain ⟨g3, hr3, rd⟩ := w2 x H3 hy
    refine hg.r S σ2 H3 x _ env2 M2 _ _ rd (rn2.same g3.same) hr3 (step i _ env2 M2 hd h2) fun env4 M4 σ4 H4 f4 g4 rn4 hr4 _ => ?_
    have gg := (g2.trans g3).trans g4
    exact hb.r S σ4 H4 env4 M4 _ _ rn4 hr4 f4 ⟨fun e' M' σ' H' y z rn' hr' => ⟨e', M', y, gg.trans z, rn', hr'⟩, fun e' M' σ' H' y z rn' hr' => c.nx e' M' σ' H' y (g1.trans (gg.trans z)) rn' hr',
      fun e' M' σ' H' y z rn' hr' => ⟨e', M', y, gg.trans z, rn', hr'⟩, fun d M' v H' y z rd' hr' => c.rt d M' v H' y (g1.trans (gg.trans z)) rd' hr'⟩
  · subst heq
    exact .inl ⟨wk.stop S M2 H2 g2.same hr2 (hin _ _ _ h2), c.nx env2 M2 σ2 H2 (fin _ _ h2) (g1.trans g2) rn2 hr2⟩
def dWhile (I : DT) (T : DS) : DS := fun E env M => ∃ W : Nat → DEnv → MH → Prop, (∃ m, W m env M) ∧ ∀ m env M, W m env M → I env M fun b M1 =>
  if b = true then T { E with nx := fun e' M' => ∃ m', m' < m ∧ W m' e' M', ct := fun e' M' => ∃ m', m' < m ∧ W m' e' M', bk := E.nx } env M1 else E.nx env M1
theorem s_while {body : List Stmt} (hp : PassesOwn (model X.prog X.w) X.A X.env X.xe) (h0 : Ts X c ti I) (hb : Ss X body t T) : Sm X (.While c body [] pos) (tWhile ti t) (dWhile I T) := by
  refine ⟨ps_while hp h0.p hb.p, ?_⟩
  intro S σ H env M D E rn hr f c
  obtain ⟨W, ⟨m0, w0⟩, turn⟩ := f
  refine ⟨fun m σ' H' => ∃ env' M', W m env' M' ∧ Gr S M H M' H' ∧ RN X.K (hid S M' H') σ' env' ∧ HR X.K S M' H', ⟨m0, env, M, w0, Gr.refl, rn, hr⟩, ?_⟩
  rintro m σ1 H1 ⟨env1, M1, w1, g1, rn1, hr1⟩
  refine h0.r S σ1 H1 env1 M1 _ _ rn1 hr1 (turn m env1 M1 w1) fun b M2 H2 f2 g2 hr2 => ?_
  split at f2
  · rename_i e
    rw [if_pos e]
    refine ⟨fun σ' H' => ∃ env' M', (∃ m', m' < m ∧ W m' env' M') ∧ Gr S M H M' H' ∧ RN X.K (hid S M' H') σ' env' ∧ HR X.K S M' H', fun σ' H' ⟨e', M', ⟨m', l, w'⟩, y2, y3, y4⟩ => ⟨m', l, e', M', w', y2, y3, y4⟩, ?_⟩
    have gg := g1.trans g2
    exact hb.r S σ1 H2 env1 M2 _ _ (rn1.same g2.same) hr2 f2 ⟨fun e' M' σ' H' y z rn' hr' => ⟨e', M', y, gg.trans z, rn', hr'⟩, fun e' M' σ' H' y z rn' hr' => c.nx e' M' σ' H' y (gg.trans z) rn' hr',
      fun e' M' σ' H' y z rn' hr' => ⟨e', M', y, gg.trans z, rn', hr'⟩, fun d M' v H' y z rd' hr' => c.rt d M' v H' y (gg.trans z) rd' hr'⟩
  · rename_i e
    rw [if_neg e]
    exact c.nx env1 M2 σ1 H2 f2 (g1.trans g2) (rn1.same g2.same) hr2
end
end Vk
set_option linter.unusedVariables false
namespace Vk
open PySem PySem.Spec PyProof.Rows L2
/-! # The data layer: walks, comprehensions, equality, match -/
section
variable {X : Cx} {a b c e tg : Expr} {es : List Expr} {ta tb tc te : TE} {ti tj : TT} {tt : TA} {n k j : Nat} {A B C D : DE} {I J : DT} {G : DA} {pos p : Pos} {F : DF} {x : Str}
abbrev tru : MH → Prop := fun _ => True
/-- the items of data that are walked -/
def wItems (A : DE) : DI := fun env M R => A env M fun d M1 => match d with
  | .lst ds => R ds tru M1
  | .scr ns => R (ns.map .int) tru M1
  | .ref p => match M1 p with
    | some (.lst ds) => R ds (fun M2 => M2 p = some (.lst ds)) M1
    | _ => False
  | _ => False
theorem Gr.mk' {S : Addr → Bool} {M : MH} {H : Hp} : Gr S M H M H := Gr.refl
theorem w_list (h : Ex X a ta A) : Wk X tg a (iList X.K ta) (wItems A) := by
  refine ⟨pi_list h.p, ?_⟩
  intro S σ H env M Q R rn hr f q
  refine h.r S σ H env M _ _ rn hr f fun d M1 v H1 f1 g1 r1 hr1 => ?_
  split at f1
  · cases r1 with
    | lst ha ra =>
      refine ⟨_, rfl, ⟨_, SqL.of (hid_some ha).1⟩, q _ _ M1 _ H1 f1 g1 hr1 ⟨fun i d e S2 M2 H2 s hr2 _ => ?_, fun S2 M2 H2 s hr2 _ => ?_⟩⟩
      · obtain ⟨v, ev, rd⟩ := ra.at e
        have at2 := SqL.of (K := X.K) (hid_some (s _ _ ha)).1
        refine ⟨⟨_, v, at2, ev⟩, fun x H3 hy => ?_⟩
        obtain ⟨rfl, z⟩ := hy
        have e2 := z _ at2
        rw [ev] at e2
        cases e2
        exact ⟨Gr.refl, hr2, RD.same s _ _ rd⟩
      · exact ⟨_, SqL.of (hid_some (s _ _ ha)).1, Nat.le_of_eq ra.len⟩
  · cases r1 with
    | scr ha =>
      refine ⟨_, rfl, ⟨_, sqL_hid ha⟩, q _ _ M1 _ H1 f1 g1 hr1 ⟨fun i d e S2 M2 H2 s hr2 _ => ?_, fun S2 M2 H2 s hr2 _ => ?_⟩⟩
      · obtain ⟨v, ev, rd⟩ := (RDs.ints (K := X.K) (G := hid S2 M2 H2) _).at e
        have at2 := sqL_hid (sqL_same s ha)
        refine ⟨⟨_, v, at2, ev⟩, fun x H3 hy => ?_⟩
        obtain ⟨rfl, z⟩ := hy
        have e2 := z _ at2
        rw [ev] at e2
        cases e2
        exact ⟨Gr.refl, hr2, rd⟩
      · exact ⟨_, sqL_hid (sqL_same s ha), by rw [List.length_map, List.length_map]; exact Nat.le_refl _⟩
  · cases r1
    split at f1
    · rename_i p _ ds e0
      obtain ⟨u, z1, z2⟩ := hr1.obj _ _ e0
      cases z2 with
      | lst ra0 =>
        refine ⟨_, rfl, ⟨_, SqL.of z1⟩, q _ _ M1 _ H1 f1 g1 hr1 ⟨fun i d e S2 M2 H2 s hr2 hin => ?_, fun S2 M2 H2 s hr2 hin => ?_⟩⟩
        · obtain ⟨u2, y1, y2⟩ := hr2.obj _ _ hin
          cases y2 with
          | lst ra =>
            obtain ⟨v, ev, rd⟩ := ra.at e
            have at2 := SqL.of (K := X.K) y1
            refine ⟨⟨_, v, at2, ev⟩, fun x H3 hy => ?_⟩
            obtain ⟨rfl, z⟩ := hy
            have e2 := z _ at2
            rw [ev] at e2
            cases e2
            exact ⟨Gr.refl, hr2, rd⟩
        · obtain ⟨u2, y1, y2⟩ := hr2.obj _ _ hin
          cases y2 with
          | lst ra => exact ⟨_, SqL.of y1, Nat.le_of_eq ra.len⟩
    · exact f1.elim
  · exact f1.elim
def wTup (A : DE) : DI := fun env M R => A env M fun d M1 => match d with
  | .tup ds => R ds tru M1
  | _ => False
theorem w_tup (h : Ex X a ta A) : Wk X tg a (iTup X.K ta) (wTup A) := by
  refine ⟨pi_tup h.p, ?_⟩
  intro S σ H env M Q R rn hr f q
  refine h.r S σ H env M _ _ rn hr f fun d M1 v H1 f1 g1 r1 hr1 => ?_
  split at f1
  · cases r1 with
    | tup ha ra =>
      refine ⟨_, rfl, ⟨_, sqT_hid ha⟩, q _ _ M1 _ H1 f1 g1 hr1 ⟨fun i d e S2 M2 H2 s hr2 _ => ?_, fun S2 M2 H2 s hr2 _ => ?_⟩⟩
      · obtain ⟨v, ev, rd⟩ := ra.at e
        have at2 := sqT_hid (sqT_same s ha)
        refine ⟨⟨_, v, at2, ev⟩, fun x H3 hy => ?_⟩
        obtain ⟨rfl, z⟩ := hy
        have e2 := z _ at2
        rw [ev] at e2
        cases e2
        exact ⟨Gr.refl, hr2, RD.same s _ _ rd⟩
      · exact ⟨_, sqT_hid (sqT_same s ha), Nat.le_of_eq ra.len⟩
  · exact f1.elim
def wStr (A : DE) : DI := fun env M R => A env M fun d M1 => match d with
  | .str y => R (y.cps.toList.map fun c => .str ⟨#[c]⟩) tru M1
  | _ => False
theorem w_str (h : Ex X a ta A) : Wk X tg a (iStr ta) (wStr A) := by
  refine ⟨pi_str h.p, ?_⟩
  intro S σ H env M Q R rn hr f q
  refine h.r S σ H env M _ _ rn hr f fun d M1 v H1 f1 g1 r1 hr1 => ?_
  cases d with
  | str y =>
    cases r1
    refine ⟨_, rfl, q _ _ M1 _ H1 f1 g1 hr1 ⟨fun i d e S2 M2 H2 s hr2 _ => ?_, fun S2 M2 H2 s hr2 _ => ?_⟩⟩
    · rw [List.getElem?_map, Array.getElem?_toList] at e
      cases c : y.cps[i]? with
      | none => rw [c] at e; cases e
      | some c' =>
        rw [c] at e
        cases e
        refine ⟨(Array.getElem?_eq_some_iff.mp c).1, fun x H3 hy => ?_⟩
        obtain ⟨rfl, c2, e2, rfl⟩ := hy
        rw [c] at e2
        cases e2
        exact ⟨Gr.refl, hr2, .str _⟩
    · show _ ≤ _
      rw [List.length_map, Array.length_toList]
      exact Nat.le_refl _
  | _ => exact f1.elim
def intsD (lo : Int) (n : Nat) : List Dv := (List.range n).map fun i => .int (lo + (i : Nat))
theorem walks_range {K : PySem.W.Frag} {G : Hp} (lo : Int) (n : Nat) : Walks K G (Itr lo n) (intsD lo n) tru := by
  refine ⟨fun i d e S2 M2 H2 s hr2 _ => ?_, fun S2 M2 H2 s hr2 _ => ?_⟩
  · unfold intsD at e
    rw [List.getElem?_map] at e
    by_cases c : i < n
    · rw [List.getElem?_range c] at e
      cases e
      refine ⟨c, fun x H3 hy => ?_⟩
      obtain ⟨rfl, rfl⟩ := hy
      exact ⟨Gr.refl, hr2, .int _⟩
    · rw [List.getElem?_eq_none (by simpa using c)] at e
      cases e
  · show _ ≤ _
    unfold intsD
    rw [List.length_map, List.length_range]
    exact Nat.le_refl _
def wRng1 (G : DA) : DI := fun env M R => G env M fun ds M1 => match ds with
  | [.int j] => -(2 ^ 62) ≤ j ∧ j < 2 ^ 62 ∧ R (intsD 0 j.toNat) tru M1
  | _ => False
def wRng2 (G : DA) : DI := fun env M R => G env M fun ds M1 => match ds with
  | [.int i, .int j] => (-(2 ^ 62) ≤ i ∧ i < 2 ^ 62 ∧ -(2 ^ 62) ≤ j ∧ j < 2 ^ 62) ∧ R (intsD i (j - i).toNat) tru M1
  | _ => False
theorem w_range1 {p pos : Pos} (hg : Gl X "range") (hm : X.mg "range" = none) (h : As X [a] tt n G) (hs : starEach [a] X.env = [(false, eval a X.env)] := by rfl) : Wk X tg (.Call (.Name "range" p) [a] [] pos) (iRng1 tt) (wRng1 G) := by
  refine ⟨pi_range1 hg hm h.p hs, ?_⟩
  intro S σ H env M Q R rn hr f q
  refine h.r S σ H env M _ _ rn hr f fun ds M1 vs H1 f1 l1 g1 r1 hr1 => ?_
  split at f1
  · obtain ⟨v, rfl, rd⟩ := r1.one
    cases rd
    exact ⟨_, rfl, f1.1, f1.2.1, q _ _ M1 _ H1 f1.2.2 g1 hr1 (walks_range _ _)⟩
  · exact f1.elim
theorem w_range2 {p pos : Pos} (hg : Gl X "range") (hm : X.mg "range" = none) (h : As X [a, b] tt n G) (hs : starEach [a, b] X.env = [(false, eval a X.env), (false, eval b X.env)] := by rfl) (hs2 : starEach [b] X.env = [(false, eval b X.env)] := by rfl) :
    Wk X tg (.Call (.Name "range" p) [a, b] [] pos) (iRng2 tt) (wRng2 G) := by
  refine ⟨pi_range2 hg hm h.p hs hs2, ?_⟩
  intro S σ H env M Q R rn hr f q
  refine h.r S σ H env M _ _ rn hr f fun ds M1 vs H1 f1 l1 g1 r1 hr1 => ?_
  split at f1
  · obtain ⟨v, w, rfl, rd, rd2⟩ := r1.two
    cases rd
    cases rd2
    exact ⟨_, _, rfl, f1.1, q _ _ M1 _ H1 f1.2 g1 hr1 (walks_range _ _)⟩
  · exact f1.elim
/-! ## comprehensions -/
def dYes : DT := fun _ M Q => Q true M
@[irreducible] def dLc (W : DI) (g : DG) (T : DT) (A : DE) (vs : List Nat) : DE := fun env M Q => W env M fun items inv M1 => items.length ≤ sizeLine ∧ ∃ I : Nat → List Dv → MH → Prop, I 0 [] M1 ∧ (∀ i acc M, I i acc M → inv M) ∧
  (∀ i d acc M, items[i]? = some d → I i acc M → g d (wipeD env vs) M fun env1 M2 => T env1 M2 fun b M3 => if b = true then A env1 M3 fun y M4 => I (i + 1) (acc ++ [y]) M4 else I (i + 1) acc M3) ∧ ∀ acc M, I items.length acc M → Q (.lst acc) M
theorem wipe_get (σ : L2.St) (j : Nat) : ∀ vs : List Nat, (L2.wipe σ vs)[j]? = if j ∈ vs then (σ[j]?).map (fun _ => none) else σ[j]?
  | [] => by simp [L2.wipe]
  | v :: vs => by
    unfold L2.wipe
    have ih := wipe_get σ j vs
    by_cases c : v = j
    · subst c
      rw [if_pos List.mem_cons_self]
      by_cases l : v < (L2.wipe σ vs).length
      · rw [List.getElem?_set_self l]
        rw [L2.wipe_length] at l
        rw [List.getElem?_eq_getElem l]
        rfl
      · rw [List.getElem?_eq_none (by simpa using l)]
        rw [L2.wipe_length] at l
        rw [List.getElem?_eq_none (by simpa using l)]
        rfl
    · rw [List.getElem?_set_ne c, ih]
      have e : (j ∈ v :: vs) ↔ j ∈ vs := by simp [show ¬ j = v from fun z => c z.symm]
      by_cases d : j ∈ vs
      · rw [if_pos d, if_pos (e.mpr d)]
      · rw [if_neg d, if_neg (fun z => d (e.mp z))]
theorem wipe_back {σ σ2 : L2.St} {vs ws : List Nat} (hw : ∀ i, i ∈ ws → i ∈ vs) (hl : σ2.length = σ.length) (h : ∀ i, i ∉ ws → σ2[i]? = (L2.wipe σ vs)[i]?) : L2.wipe σ2 vs = L2.wipe σ vs := by
  apply List.ext_getElem?
  intro j
  rw [wipe_get, wipe_get]
  by_cases c : j ∈ vs
  · rw [if_pos c, if_pos c]
    by_cases l : j < σ.length
    · rw [List.getElem?_eq_getElem l, List.getElem?_eq_getElem (by rw [hl]; exact l)]
      rfl
    · rw [List.getElem?_eq_none (show σ2.length ≤ j by omega), List.getElem?_eq_none (show σ.length ≤ j by omega)]
  · rw [if_neg c, if_neg c, h j fun z => c (hw j z), wipe_get, if_neg c]
theorem RE.lc {K : PySem.W.Frag} {wi : TI} {g : TG} {tT : TT} {te : TE} {vs ws : List Nat} {W : DI} {Fg : DG} {T : DT} {A : DE} (hi : RI K wi W) (hg : RG K g ws Fg) (ht : RT K tT T) (he : RE K te A) (hw : ∀ i, i ∈ ws → i ∈ vs) :
    RE K (tLc wi g tT te vs) (dLc W Fg T A vs) := by
  intro S σ H env M Q R rn hr f q
  unfold dLc at f
  refine hi S σ H env M _ _ rn hr f fun items inv M1 J H1 f1 g1 hr1 wk => ?_
  obtain ⟨hsz, I, h0, hin, step, fin⟩ := f1
  intro D hD
  obtain ⟨sD, mD⟩ := hr1.fresh hD
  let S2 : Addr → Bool := fun z => S z || z == D
  have s2D : S2 D = true := by simp [S2]
  have s2S : ∀ z, S z = true → S2 z = true := fun z hz => by simp [S2, hz]
  have hid0 : ∀ o, hid S2 M1 (upd H1 D o) = hid S M1 H1 := fun o => by
    funext z
    by_cases c : z = D
    · subst c
      unfold hid
      rw [s2D, sD, mD, hD]
      simp
    · have e : S2 z = S z := by simp [S2, c]
      unfold hid
      rw [e, upd_ne c]
  have hr0 : HR K S2 M1 (upd H1 D (.lst [])) := by
    refine ⟨fun z o e => ?_, fun z hz => ?_⟩
    · obtain ⟨u, y1, y2⟩ := hr1.obj z o e
      have n : z ≠ D := fun w => by subst w; rw [mD] at e; cases e
      exact ⟨u, by rw [upd_ne n]; exact y1, by rw [hid0]; exact y2⟩
    · by_cases c : z = D
      · subst c
        exact ⟨mD, by rw [upd_same]; exact fun w => by cases w⟩
      · have e : S z = true := by simpa [S2, c] using hz
        obtain ⟨y1, y2⟩ := hr1.apart z e
        exact ⟨y1, by rw [upd_ne c]; exact y2⟩
  refine ⟨fun i m H' => ∃ acc M' av, I i acc M' ∧ H' D = some (.lst av) ∧ RDs K (hid S2 M' H') av acc ∧ HR K S2 M' H' ∧ Same (hid S M1 H1) (hid S2 M' H') ∧ (∀ z, S z = true → H' z = H1 z) ∧ acc.length ≤ i ∧ m = items.length - i ∧ i ≤ items.length,
    ⟨_, [], M1, [], h0, upd_same, .nil, hr0, by rw [hid0]; exact Same.refl _, fun z hz => upd_ne (fun w => by subst w; rw [sD] at hz; cases hz), Nat.zero_le _, rfl, Nat.zero_le _⟩, ?_⟩
  rintro i m H2 ⟨acc, M2, av, h2, at2, ra2, hr2, same2, hold2, hl2, rfl, hi2⟩
  rcases Nat.lt_or_eq_of_le hi2 with hlt | heq
  · refine .inr ?_
    have hd : items[i]? = some items[i] := List.getElem?_eq_getElem hlt
    obtain ⟨w1, w2⟩ := wk.go i _ hd S2 M2 H2 same2 hr2 (hin _ _ _ h2)
    refine ⟨w1, fun H' => ∃ acc' M' av', I (i + 1) acc' M' ∧ H' D = some (.lst av') ∧ RDs K (hid S2 M' H') av' acc' ∧ HR K S2 M' H' ∧ Same (hid S M1 H1) (hid S2 M' H') ∧ (∀ z, S z = true → H' z = H1 z) ∧ acc'.length ≤ i + 1,
      fun H' ⟨a', M', av', y1, y2, y3, y4, y5, y6, y7⟩ => ⟨items.length - (i + 1), by omega, a', M', av', y1, y2, y3, y4, y5, y6, y7, rfl, hlt⟩, fun x H3 hy => ?_⟩
    obtain ⟨g3, hr3, rd⟩ := w2 x H3 hy
    have rnw : RN K (hid S2 M2 H3) (L2.wipe σ vs) (wipeD env vs) := by
      refine RN.same g3.same (RN.same same2 (RN.wipe (rn.same g1.same) vs))
    refine hg S2 (L2.wipe σ vs) H3 x _ (wipeD env vs) M2 _ _ rd rnw hr3 (step i _ acc M2 hd h2) fun env4 M4 σ4 H4 f4 g4 rn4 hr4 k4 => ?_
    refine ⟨wipe_back hw (by rw [k4.1, L2.wipe_length]) k4.2, ?_⟩
    refine ht S2 σ4 H4 env4 M4 _ _ rn4 hr4 f4 fun b M5 H5 f5 g5 hr5 => ?_
    split at f5
    · rename_i eb
      rw [if_pos eb]
      refine he S2 σ4 H5 env4 M5 _ _ (rn4.same g5.same) hr5 f5 fun y M6 v H6 f6 g6 rd6 hr6 => ?_
      have gg := ((g3.trans g4).trans g5).trans g6
      have at6 : H6 D = some (.lst av) := by rw [gg.hold D s2D]; exact at2
      have ra6 := RDs.same gg.same _ _ ra2
      have hidE : ∀ o, hid S2 M6 (upd H6 D o) = hid S2 M6 H6 := fun o => by
        funext z
        by_cases c : z = D
        · subst c
          unfold hid
          rw [s2D]
          simp
        · unfold hid
          rw [upd_ne c]
      refine ⟨av, at6, by rw [ra2.len]; omega, acc ++ [y], M6, av ++ [v], f6, upd_same, by rw [hidE]; exact ra6.app (.cons rd6 .nil), ⟨fun z o e => ?_, fun z hz => ?_⟩, by rw [hidE]; exact same2.trans gg.same, fun z hz => ?_, by rw [List.length_append]; simp; omega⟩
      · obtain ⟨u, y1, y2⟩ := hr6.obj z o e
        have n : z ≠ D := fun w => by subst w; rw [(hr6.apart _ s2D).1] at e; cases e
        exact ⟨u, by rw [upd_ne n]; exact y1, by rw [hidE]; exact y2⟩
      · obtain ⟨y1, y2⟩ := hr6.apart z hz
        refine ⟨y1, ?_⟩
        by_cases c : z = D
        · subst c
          rw [upd_same]
          exact fun w => by cases w
        · rw [upd_ne c]
          exact y2
      · have n : z ≠ D := fun w => by subst w; rw [sD] at hz; cases hz
        rw [upd_ne n, gg.hold z (s2S z hz)]
        exact hold2 z hz
    · rename_i eb
      rw [if_neg eb]
      have gg := (g3.trans g4).trans g5
      exact ⟨acc, M5, av, f5, by rw [gg.hold D s2D]; exact at2, RDs.same gg.same _ _ ra2, hr5, same2.trans gg.same, fun z hz => by rw [gg.hold z (s2S z hz)]; exact hold2 z hz, by omega⟩
  · subst heq
    refine .inl ⟨wk.stop S2 M2 H2 same2 hr2 (hin _ _ _ h2), ?_⟩
    have m2D : M2 D = none := (hr2.apart D s2D).1
    have up : Same (hid S2 M2 H2) (hid S M2 H2) := fun z o e => by
      obtain ⟨y1, y2, y3⟩ := hid_some e
      rw [hid_of (by cases c : S z with | false => rfl | true => rw [s2S z c] at y2; cases y2) y3]
      exact y1
    refine q _ M2 _ H2 (fin _ _ h2) (g1.trans ⟨same2.trans up, hold2⟩) (.lst (by rw [hid_of sD m2D]; exact at2) (RDs.same up _ _ ra2)) ⟨fun z o e => ?_, fun z hz => ?_⟩
    · obtain ⟨u, y1, y2⟩ := hr2.obj z o e
      exact ⟨u, y1, y2.same up⟩
    · exact hr2.apart z (s2S z hz)
/-- a comprehension's block: for whatever place it runs at -/
theorem d_lc {elt it : Expr} {ifs : List Expr} {scope : Scope} {own : List (Str × Nat)} {wi : TI} {g : TG} {tT : TT} {ws : List Nat} {W : DI} {Fg : DG} {T : DT} (hc : X.calm = true) (hN : X.N.Nodup) (hi : Wk X tg it wi W) (ok : BlkOk X.N X.env.scope scope own)
    (hg : ∀ (s : Shared) (H : Hp) (C : Addr) (cl : List (Str × Addr)) (fp : List Addr), Tg (X.blk s H scope (compEnvC scope cl C X.env) fp) tg g ws Fg) (ht : ∀ (s : Shared) (H : Hp) (C : Addr) (cl : List (Str × Addr)) (fp : List Addr), PTs (X.blk s H scope (compEnvC scope cl C X.env) fp) ifs tT) (htr : RT X.K tT T)
    (he : ∀ (s : Shared) (H : Hp) (C : Addr) (cl : List (Str × Addr)) (fp : List Addr), Ex (X.blk s H scope (compEnvC scope cl C X.env) fp) elt te A) (hw : ∀ i, i ∈ ws → i ∈ own.map (·.2) := by decide) (hs : ∀ x, foldedSetIterable it X.env x = pure x := by intro _; rfl) :
    Ex X (.ListComp elt [⟨tg, it, ifs, 0⟩] scope pos) (tLc wi g tT te (own.map (·.2))) (dLc W Fg T A (own.map (·.2))) := by
  refine ⟨pe_lc hc hN hi.p ok (fun s H C cl fp => (hg s H C cl fp).p) ht (fun s H C cl fp => (he s H C cl fp).p) hs, ?_⟩
  exact RE.lc hi.r (hg X.s_0 X.H_0 0 [] []).r htr (he X.s_0 X.H_0 0 [] []).r hw
theorem s_setLc {i : Nat} {y : Str} {py spos : Pos} {elt it : Expr} {ifs : List Expr} {scope : Scope} {own : List (Str × Nat)} {wi : TI} {g : TG} {tT : TT} {ws : List Nat} {W : DI} {Fg : DG} {T : DT} (hc : X.calm = true) (hN : X.N.Nodup) (hy : X.N[i]? = some y) (hyl : X.env.scope.names.lookup y = some .local)
    (hsw : swapsWith (.ListComp elt [⟨tg, it, ifs, 0⟩] scope pos) (some (.Name y py)) spos.line X.env = pure true) (hi : Wk X tg it wi W) (ok : BlkOk X.N X.env.scope scope own)
    (hg : ∀ (s : Shared) (H : Hp) (C : Addr) (cl : List (Str × Addr)) (fp : List Addr), Tg (X.blk s H scope (compEnvC scope cl C X.env) fp) tg g ws Fg) (ht : ∀ (s : Shared) (H : Hp) (C : Addr) (cl : List (Str × Addr)) (fp : List Addr), PTs (X.blk s H scope (compEnvC scope cl C X.env) fp) ifs tT) (htr : RT X.K tT T)
    (he : ∀ (s : Shared) (H : Hp) (C : Addr) (cl : List (Str × Addr)) (fp : List Addr), Ex (X.blk s H scope (compEnvC scope cl C X.env) fp) elt te A) (hw : ∀ i, i ∈ ws → i ∈ own.map (·.2) := by decide) (hs : ∀ x, foldedSetIterable it X.env x = pure x := by intro _; rfl) :
    Sm X (.Assign [.Name y py] (.ListComp elt [⟨tg, it, ifs, 0⟩] scope pos) spos) (tAsg (tLc wi g tT te (own.map (·.2))) (gName i)) (dSet i (dLc W Fg T A (own.map (·.2)))) := by
  refine ⟨ps_setLc hc hN hy hyl hsw hi.p ok (fun s H C cl fp => (hg s H C cl fp).p) ht (fun s H C cl fp => (he s H C cl fp).p) hs, ?_⟩
  have r := RE.lc hi.r (hg X.s_0 X.H_0 0 [] []).r htr (he X.s_0 X.H_0 0 [] []).r hw
  intro S σ H env M D E rn hr f c
  refine r S σ H env M _ _ rn hr f fun d M' v H' e g rd hr' => ?_
  exact c.nx _ M' _ H' e g ((rn.same g.same).set rd i) hr'
theorem rt_yes {K : PySem.W.Frag} : RT K tYes dYes := fun S σ H env M Q R rn hr f q => q true M H f Gr.refl hr
end
/-! ## equality of data -/
mutual
def toP : Dv → PyData
  | .non => .none
  | .bl b => .bool b
  | .int i => .int i
  | .str x => .str x
  | .tup ds => .tuple (toPs ds)
  | .lst ds => .list (toPs ds)
  | .scr ns => .list (ns.map .int)
  | .ref _ => .none
  | .ty _ => .none
def toPs : List Dv → List PyData
  | [] => []
  | d :: ds => toP d :: toPs ds
end
mutual
/-- no object, no class in it -/
def datD : Dv → Bool
  | .tup ds => datDs ds
  | .lst ds => datDs ds
  | .ref _ => false
  | .ty _ => false
  | _ => true
def datDs : List Dv → Bool
  | [] => true
  | d :: ds => datD d && datDs ds
end
theorem dpInts {K : PySem.W.Frag} {H : Hp} : ∀ ns : List Int, DpAll K H (ns.map V.int) (ns.map PyData.int)
  | [] => .nil
  | n :: r => .cons (.int n) (dpInts r)
mutual
theorem RD.dp {K : PySem.W.Frag} {S : Addr → Bool} {M : MH} {H : Hp} : ∀ (d : Dv) (v : V), datD d = true → RD K (hid S M H) v d → Dp K H v (toP d)
  | .non, _, _, h => by cases h; exact .non
  | .bl b, _, _, h => by cases h; exact .bl b
  | .int i, _, _, h => by cases h; exact .int i
  | .str x, _, _, h => by cases h; exact .str x
  | .tup ds, _, o, h => by
    cases h with
    | tup ha ra => exact .tup (sqT_hid ha) (RDs.dp ds _ (by simpa [datD] using o) ra)
  | .lst ds, _, o, h => by
    cases h with
    | lst ha ra => exact .lst (SqL.of (hid_some ha).1) (RDs.dp ds _ (by simpa [datD] using o) ra)
  | .scr ns, _, _, h => by
    cases h with
    | scr ha => exact .lst (sqL_hid ha) (dpInts ns)
  | .ref _, _, o, _ => by simp [datD] at o
  | .ty _, _, o, _ => by simp [datD] at o
theorem RDs.dp {K : PySem.W.Frag} {S : Addr → Bool} {M : MH} {H : Hp} : ∀ (ds : List Dv) (vs : List V), datDs ds = true → RDs K (hid S M H) vs ds → DpAll K H vs (toPs ds)
  | [], _, _, h => by cases h; exact .nil
  | d :: ds, _, o, h => by
    have o' : datD d = true ∧ datDs ds = true := by simpa [datDs] using o
    cases h with
    | cons a b => exact .cons (RD.dp d _ o'.1 a) (RDs.dp ds _ o'.2 b)
end
/-- data that may be compared -/
def shp (d : Dv) : Bool := datD d && SeqAt.shaped (toP d)
/-- the equality of scalars, where no kinds are mixed that may be equal -/
def eqS : Dv → Dv → Option Bool
  | .non, .non => some true
  | .int i, .int j => some (decide (i = j))
  | .bl i, .bl j => some (decide (i = j))
  | .str i, .str j => some (decide (i = j))
  | .non, .int _ => some false
  | .int _, .non => some false
  | .non, .bl _ => some false
  | .bl _, .non => some false
  | .non, .str _ => some false
  | .str _, .non => some false
  | .int _, .str _ => some false
  | .str _, .int _ => some false
  | .bl _, .str _ => some false
  | .str _, .bl _ => some false
  | _, _ => none
def gEq (k : Bool → Bool) : DO := fun x y M Q => match eqS x y with
  | some b => Q (.bl (k b)) M
  | none => shp x = true ∧ shp y = true ∧ Q (.bl (k (PyData.eqv (toP x) (toP y)))) M
theorem eqS_rd {K : PySem.W.Frag} {G : Hp} {x y : V} {dx dy : Dv} {b : Bool} (hx : RD K G x dx) (hy : RD K G y dy) (e : eqS dx dy = some b) : scal x y = true ∧ decide (x = y) = b := by
  unfold eqS at e
  split at e <;> first
    | (cases e; done)
    | (cases hx; cases hy; cases e; refine ⟨rfl, ?_⟩; first | rfl | simp | (apply decide_eq_decide.mpr; simp))
section
variable {X : Cx}
abbrev rEqA (K : PySem.W.Frag) : R2 := fun x y H Q => rEq x y H Q ∨ rEqD K x y H Q
abbrev rNeA (K : PySem.W.Frag) : R2 := fun x y H Q => rNe x y H Q ∨ rNeD K x y H Q
theorem o_eq (hu : X.A.units + 64 < cLine) : Op X (compareOp .Eq) (rEqA X.K) (gEq fun b => b) := by
  refine ⟨opr_or op_eq (op_eqD hu), ?_⟩
  intro S H x y dx dy M Q R rx ry hr f q
  unfold gEq at f
  split at f
  · rename_i e
    obtain ⟨e1, e2⟩ := eqS_rd rx ry e
    exact .inl ⟨e1, by rw [e2]; exact q _ M _ H f Gr.refl (.bl _) hr⟩
  · obtain ⟨h1, h2, f⟩ := f
    unfold shp at h1 h2
    rw [Bool.and_eq_true] at h1 h2
    exact .inr ⟨_, _, RD.dp _ _ h1.1 rx, RD.dp _ _ h2.1 ry, h1.2, h2.2, q _ M _ H f Gr.refl (.bl _) hr⟩
theorem o_ne (hu : X.A.units + 64 < cLine) : Op X (compareOp .NotEq) (rNeA X.K) (gEq fun b => !b) := by
  refine ⟨opr_or op_ne (op_neD hu), ?_⟩
  intro S H x y dx dy M Q R rx ry hr f q
  unfold gEq at f
  split at f
  · rename_i e
    obtain ⟨e1, e2⟩ := eqS_rd rx ry e
    exact .inl ⟨e1, by rw [e2]; exact q _ M _ H f Gr.refl (.bl _) hr⟩
  · obtain ⟨h1, h2, f⟩ := f
    unfold shp at h1 h2
    rw [Bool.and_eq_true] at h1 h2
    exact .inr ⟨_, _, RD.dp _ _ h1.1 rx, RD.dp _ _ h2.1 ry, h1.2, h2.2, q _ M _ H f Gr.refl (.bl _) hr⟩
/-! ## is None -/
def isNonD : Dv → Bool
  | .non => true
  | _ => false
theorem isNon_rd {K : PySem.W.Frag} {G : Hp} {x : V} {d : Dv} (h : RD K G x d) : decide (x = .non) = isNonD d := by
  cases h <;> simp [isNonD]
def gIsN (k : Bool → Bool) : DO := fun x y M Q => match y with | .non => Q (.bl (k (isNonD x))) M | _ => False
end
end Vk
set_option linter.unusedVariables false
namespace Vk
open PySem PySem.Spec PyProof.Rows L2
/-! # The data layer: in, is, kinds, match, lists that change -/
theorem gEq_or {K : PySem.W.Frag} : True := trivial
section
variable {X : Cx} {a b c e o : Expr} {es : List Expr} {ta tb tc te to_ : TE} {ti tj : TT} {tt : TA} {n k j : Nat} {A B C D : DE} {I J : DT} {G : DA} {pos p apos : Pos} {F : DF} {x : Str} {sts : List Stmt} {t : TS} {T : DS}
/-! ## in -/
def flatD : Dv → Bool
  | .non => true
  | .bl _ => true
  | .int _ => true
  | .str _ => true
  | _ => false
def eqF : Dv → Dv → Bool
  | .non, .non => true
  | .bl a, .bl b => a == b
  | .bl a, .int b => (if a then 1 else 0) == b
  | .int a, .bl b => a == (if b then 1 else 0)
  | .int a, .int b => a == b
  | .str a, .str b => a == b
  | _, _ => false
/-- the items of data -/
def itsD (M : MH) : Dv → Option (List Dv)
  | .tup ds => some ds
  | .lst ds => some ds
  | .scr ns => some (ns.map .int)
  | .ref p => match M p with
    | some (.lst ds) => some ds
    | _ => none
  | _ => none
@[irreducible] def gIn (k : Bool → Bool) : DO := fun x y M Q => match itsD M y with
  | some ds => if (flatD x && ds.all flatD) = true then Q (.bl (k (ds.any fun z => eqF z x))) M else shp x = true ∧ shp (.lst ds) = true ∧ Q (.bl (k ((toPs ds).any fun z => PyData.eqv z (toP x)))) M
  | none => False
theorem flat_rd {K : PySem.W.Frag} {G : Hp} {v : V} {d : Dv} (h : RD K G v d) (f : flatD d = true) : flatV v = true := by
  cases h <;> first | rfl | (simp [flatD] at f)
theorem flats_rd {K : PySem.W.Frag} {G : Hp} : ∀ {vs : List V} {ds : List Dv}, RDs K G vs ds → ds.all flatD = true → vs.all flatV = true
  | _, _, .nil, _ => rfl
  | _, _, .cons a b, f => by
    rw [List.all_cons, Bool.and_eq_true] at f ⊢
    exact ⟨flat_rd a f.1, flats_rd b f.2⟩
theorem eqF_rd {K : PySem.W.Frag} {G : Hp} {v w : V} {d e : Dv} (h : RD K G v d) (h2 : RD K G w e) (f : flatD d = true) (f2 : flatD e = true) : eqV v w = eqF d e := by
  cases h <;> first | (simp [flatD] at f; done) | (cases h2 <;> first | (simp [flatD] at f2; done) | rfl)
theorem inF_rd {K : PySem.W.Frag} {G : Hp} {w : V} {e : Dv} (h2 : RD K G w e) (f2 : flatD e = true) : ∀ {vs : List V} {ds : List Dv}, RDs K G vs ds → ds.all flatD = true → (vs.any fun y => eqV y w) = ds.any fun y => eqF y e
  | _, _, .nil, _ => rfl
  | _, _, .cons a b, f => by
    rw [List.all_cons, Bool.and_eq_true] at f
    rw [List.any_cons, List.any_cons, eqF_rd a h2 f.1 f2, inF_rd h2 f2 b f.2]
theorem its_rd {K : PySem.W.Frag} {S : Addr → Bool} {M : MH} {H : Hp} {v : V} {d : Dv} {ds : List Dv} (hr : HR K S M H) (h : RD K (hid S M H) v d) (e : itsD M d = some ds) :
    ∃ a vs, v = .ref a ∧ (SqL K H a vs ∨ SqT K H a vs) ∧ RDs K (hid S M H) vs ds := by
  cases h with
  | tup ha ra => cases e; exact ⟨_, _, rfl, .inr (sqT_hid ha), ra⟩
  | lst ha ra => cases e; exact ⟨_, _, rfl, .inl (SqL.of (hid_some ha).1), ra⟩
  | scr ha => cases e; exact ⟨_, _, rfl, .inl (sqL_hid ha), RDs.ints _⟩
  | ref p =>
    unfold itsD at e
    simp only at e
    split at e
    · rename_i e1
      cases e
      obtain ⟨u, z1, z2⟩ := hr.obj _ _ e1
      cases z2 with
      | lst ra => exact ⟨_, _, rfl, .inl (SqL.of z1), ra⟩
    · cases e
  | _ => cases e
def rInA (K : PySem.W.Frag) : R2 := fun x y H Q => ∃ d ds, Dp K H x d ∧ (Dp K H y (.list ds) ∨ Dp K H y (.tuple ds)) ∧ SeqAt.shaped d = true ∧ SeqAt.shaped (.list ds) = true ∧ Q (.bl (ds.any fun z => PyData.eqv z d)) H
def rNotInA (K : PySem.W.Frag) : R2 := fun x y H Q => ∃ d ds, Dp K H x d ∧ (Dp K H y (.list ds) ∨ Dp K H y (.tuple ds)) ∧ SeqAt.shaped d = true ∧ SeqAt.shaped (.list ds) = true ∧ Q (.bl (!ds.any fun z => PyData.eqv z d)) H
theorem op_inA (hu : X.A.units + 65 < cLine) : OpR X (compareOp .In) (rInA X.K) := by
  intro pins s σ H x y v u Q I rx ry h
  obtain ⟨d, ds, hd, he, sd, se, q⟩ := h
  obtain ⟨as, r1⟩ := Dp.reads I d x v hd rx
  rcases he with he | he
  · obtain ⟨bs, r2⟩ := Dp.reads I (.list ds) y u he ry
    exact SeqAt.in_list_reads r2 r1 (SeqAt.canLay_of_shaped se) (SeqAt.canLay_of_shaped sd) (room_in_shaped sd hu) ⟨.bl _, H, I, rfl, q⟩
  · obtain ⟨bs, r2⟩ := Dp.reads I (.tuple ds) y u he ry
    exact SeqAt.in_tuple_reads r2 r1 (SeqAt.canLay_of_shaped se) (SeqAt.canLay_of_shaped sd) (room_in_shaped sd hu) ⟨.bl _, H, I, rfl, q⟩
theorem op_notInA (hu : X.A.units + 65 < cLine) : OpR X (compareOp .NotIn) (rNotInA X.K) := by
  intro pins s σ H x y v u Q I rx ry h
  obtain ⟨d, ds, hd, he, sd, se, q⟩ := h
  obtain ⟨as, r1⟩ := Dp.reads I d x v hd rx
  rcases he with he | he
  · obtain ⟨bs, r2⟩ := Dp.reads I (.list ds) y u he ry
    exact SeqAt.notIn_list_reads r2 r1 (SeqAt.canLay_of_shaped se) (SeqAt.canLay_of_shaped sd) (room_in_shaped sd hu) ⟨.bl _, H, I, rfl, q⟩
  · obtain ⟨bs, r2⟩ := Dp.reads I (.tuple ds) y u he ry
    exact SeqAt.notIn_tuple_reads r2 r1 (SeqAt.canLay_of_shaped se) (SeqAt.canLay_of_shaped sd) (room_in_shaped sd hu) ⟨.bl _, H, I, rfl, q⟩
theorem its_dp {K : PySem.W.Frag} {S : Addr → Bool} {M : MH} {H : Hp} {v : V} {d : Dv} {ds : List Dv} (hr : HR K S M H) (h : RD K (hid S M H) v d) (e : itsD M d = some ds) (o : datDs ds = true) : Dp K H v (.list (toPs ds)) ∨ Dp K H v (.tuple (toPs ds)) := by
  cases h with
  | tup ha ra => cases e; exact .inr (.tup (sqT_hid ha) (RDs.dp _ _ o ra))
  | lst ha ra => cases e; exact .inl (.lst (SqL.of (hid_some ha).1) (RDs.dp _ _ o ra))
  | scr ha => cases e; exact .inl (.lst (sqL_hid ha) (RDs.dp (S := S) (M := M) _ _ o (RDs.ints _)))
  | ref p =>
    unfold itsD at e
    simp only at e
    split at e
    · rename_i e1
      cases e
      obtain ⟨u, z1, z2⟩ := hr.obj _ _ e1
      cases z2 with
      | lst ra => exact .inl (.lst (SqL.of z1) (RDs.dp _ _ o ra))
    · cases e
  | _ => cases e
abbrev rInB (K : PySem.W.Frag) : R2 := fun x y H Q => rIn K false x y H Q ∨ rInA K x y H Q
abbrev rNotInB (K : PySem.W.Frag) : R2 := fun x y H Q => rIn K true x y H Q ∨ rNotInA K x y H Q
theorem o_in (hu : X.A.units + 65 < cLine) : Op X (compareOp .In) (rInB X.K) (gIn fun b => b) := by
  refine ⟨opr_or op_in_seq (op_inA hu), ?_⟩
  intro S H x y dx dy M Q R rx ry hr f q
  unfold gIn at f
  split at f
  · rename_i ds e
    split at f
    · rename_i fl
      rw [Bool.and_eq_true] at fl
      obtain ⟨a, vs, rfl, h1, h2⟩ := its_rd hr ry e
      refine .inl ⟨a, vs, rfl, h1, flat_rd rx fl.1, flats_rd h2 fl.2, ?_⟩
      show Q (.bl (inV x vs)) H
      unfold inV
      rw [inF_rd rx fl.1 h2 fl.2]
      exact q _ M _ H f Gr.refl (.bl _) hr
    · obtain ⟨h1, h2, f⟩ := f
      unfold shp at h1 h2
      rw [Bool.and_eq_true] at h1 h2
      have h3 : datDs ds = true := by simpa [datD] using h2.1
      exact .inr ⟨_, _, RD.dp _ _ h1.1 rx, its_dp hr ry e h3, h1.2, by simpa [toP] using h2.2, q _ M _ H f Gr.refl (.bl _) hr⟩
  · exact f.elim
theorem o_notIn (hu : X.A.units + 65 < cLine) : Op X (compareOp .NotIn) (rNotInB X.K) (gIn fun b => !b) := by
  refine ⟨opr_or op_notIn_seq (op_notInA hu), ?_⟩
  intro S H x y dx dy M Q R rx ry hr f q
  unfold gIn at f
  split at f
  · rename_i ds e
    split at f
    · rename_i fl
      rw [Bool.and_eq_true] at fl
      obtain ⟨a, vs, rfl, h1, h2⟩ := its_rd hr ry e
      refine .inl ⟨a, vs, rfl, h1, flat_rd rx fl.1, flats_rd h2 fl.2, ?_⟩
      show Q (.bl (!inV x vs)) H
      unfold inV
      rw [inF_rd rx fl.1 h2 fl.2]
      exact q _ M _ H f Gr.refl (.bl _) hr
    · obtain ⟨h1, h2, f⟩ := f
      unfold shp at h1 h2
      rw [Bool.and_eq_true] at h1 h2
      have h3 : datDs ds = true := by simpa [datD] using h2.1
      exact .inr ⟨_, _, RD.dp _ _ h1.1 rx, its_dp hr ry e h3, h1.2, by simpa [toP] using h2.2, q _ M _ H f Gr.refl (.bl _) hr⟩
  · exact f.elim
/-! ## is -/
theorem o_isN : Op X (compareOp .Is) (fun x y H Q => y = .non ∧ Q (.bl (decide (x = .non))) H) (gIsN fun b => b) := by
  refine ⟨op_isN, ?_⟩
  intro S H x y dx dy M Q R rx ry hr f q
  unfold gIsN at f
  split at f
  · cases ry
    exact ⟨rfl, by rw [isNon_rd rx]; exact q _ M _ H f Gr.refl (.bl _) hr⟩
  · exact f.elim
theorem o_notN : Op X (compareOp .IsNot) (fun x y H Q => y = .non ∧ Q (.bl (!decide (x = .non))) H) (gIsN fun b => !b) := by
  refine ⟨op_notN, ?_⟩
  intro S H x y dx dy M Q R rx ry hr f q
  unfold gIsN at f
  split at f
  · cases ry
    exact ⟨rfl, by rw [isNon_rd rx]; exact q _ M _ H f Gr.refl (.bl _) hr⟩
  · exact f.elim
def gIsB (k : Bool → Bool) : DO := fun x y M Q => match x, y with | .bl a, .bl b => Q (.bl (k (decide (a = b)))) M | _, _ => False
theorem o_isB : Op X (compareOp .Is) (fun x y H Q => ∃ a b, x = .bl a ∧ y = .bl b ∧ Q (.bl (decide (a = b))) H) (gIsB fun b => b) := by
  refine ⟨op_is_bl, ?_⟩
  intro S H x y dx dy M Q R rx ry hr f q
  unfold gIsB at f
  split at f
  · cases rx
    cases ry
    exact ⟨_, _, rfl, rfl, q _ M _ H f Gr.refl (.bl _) hr⟩
  · exact f.elim
theorem o_notB : Op X (compareOp .IsNot) (fun x y H Q => ∃ a b, x = .bl a ∧ y = .bl b ∧ Q (.bl (!decide (a = b))) H) (gIsB fun b => !b) := by
  refine ⟨op_isnot_bl, ?_⟩
  intro S H x y dx dy M Q R rx ry hr f q
  unfold gIsB at f
  split at f
  · cases rx
    cases ry
    exact ⟨_, _, rfl, rfl, q _ M _ H f Gr.refl (.bl _) hr⟩
  · exact f.elim
/-! ## type(x) is T -/
@[irreducible] def gTy : DL := fun ds M Q => match ds with
  | [.scr _] => False
  | [d] => match tyN M d with | some n => Q (.ty n) M | none => False
  | _ => False
theorem c_type : Cb X (.type "type") (rTypX X.K) gTy := by
  refine ⟨call_typX, ?_⟩
  intro S H vs ds M Q R rs hr f q
  unfold gTy at f
  split at f
  · exact f.elim
  · rename_i d ns
    obtain ⟨v, rfl, rd⟩ := rs.one
    split at f
    · rename_i e
      have go : Q (.ty _) H := q _ M _ H f Gr.refl (.ty _) hr
      cases rd with
      | non => cases e; exact typ_go rfl go
      | bl b => cases e; exact typ_go rfl go
      | int i => cases e; exact typ_go rfl go
      | str x => cases e; exact typ_go rfl go
      | tup ha ra => cases e; exact typ_goT (sqT_hid ha) go
      | lst ha ra => cases e; exact typ_go (by simp only [zTyV, (hid_some ha).1]) go
      | scr ha => exact (ns _ rfl).elim
      | ref a =>
        unfold tyN at e
        simp only at e
        split at e
        · rename_i e1
          cases e
          obtain ⟨w, z1, z2⟩ := hr.obj _ _ e1
          cases z2
          exact typ_go (by simp only [zTyV, z1]) go
        · rename_i e1
          cases e
          obtain ⟨w, z1, z2⟩ := hr.obj _ _ e1
          cases z2
          exact typ_goD z1 go
        · cases e
      | ty m => cases e
    · exact f.elim
  · exact f.elim
def gIsTy : DO := fun x y M Q => match x, y with | .ty a, .ty b => Q (.bl (decide (a = b))) M | _, _ => False
theorem o_isTy : Op X (compareOp .Is) (fun x y H Q => ∃ m n, x = .ty m ∧ y = .ty n ∧ Q (.bl (decide (m = n))) H) gIsTy := by
  refine ⟨op_isTy, ?_⟩
  intro S H x y dx dy M Q R rx ry hr f q
  unfold gIsTy at f
  split at f
  · cases rx
    cases ry
    exact ⟨_, _, rfl, rfl, q _ M _ H f Gr.refl (.bl _) hr⟩
  · exact f.elim
/-! ## match -/
inductive DPat where
  | lit (s : Str)
  | name
  | any
  | sub (f : Dv → Option (Option (List Dv)))
/-- is the data this word; none: it is not known -/
def eqLit (d : Dv) (s : Str) : Option Bool := match d with
  | .str x => some (decide (x = s))
  | .non => some false
  | .bl _ => some false
  | .int _ => some false
  | d => if shp d = true then some false else none
def matchP : List DPat → List Dv → Option (Option (List Dv))
  | [], _ => some (some [])
  | _ :: _, [] => none
  | .lit s :: ps, d :: ds => match eqLit d s with
    | none => none
    | some false => some none
    | some true => matchP ps ds
  | .name :: ps, d :: ds => match matchP ps ds with
    | some (some cs) => some (some (d :: cs))
    | r => r
  | .any :: ps, _ :: ds => matchP ps ds
  | .sub f :: ps, d :: ds => match f d with
    | none => none
    | some none => some none
    | some (some cs) => match matchP ps ds with
      | some (some es) => some (some (cs ++ es))
      | r => r
def RPs (K : PySem.W.Frag) (t : TPs) (ps : List DPat) : Prop := ∀ (S : Addr → Bool) (H : Hp) (M : MH) (vs : List V) (ds : List Dv) (Q : Option (List V) → Hp → Prop), ds.length = ps.length → RDs K (hid S M H) vs ds → HR K S M H →
  (match matchP ps ds with | none => False | some none => Q none H | some (some cs) => ∀ ws, RDs K (hid S M H) ws cs → Q (some ws) H) → t vs H Q
structure Pats (X : Cx) (ps : List Pattern) (ns : List Str) (t : TPs) (q : List DPat) : Prop where
  p : PPs X ps ns t
  r : RPs X.K t q
theorem eqv_strD (d : PyData) (s : Str) : PyData.eqv d (.str s) = (match d with | .str x => x == s | _ => false) := by
  cases d <;> simp [PyData.eqv]
theorem ps0 : Pats X [] [] tPNil [] := by
  refine ⟨pps_nil, ?_⟩
  intro S H M vs ds Q hl rs hr f
  cases ds with
  | nil => cases rs; exact ⟨rfl, f [] .nil⟩
  | cons _ _ => cases hl
def kLit (t : TPs) (vs : List V) (Q : Option (List V) → Hp → Prop) : Option (List V) → Hp → Prop := fun o H1 => match o with
  | none => Q none H1
  | some ws => t vs H1 fun o2 H2 => match o2 with
    | none => Q none H2
    | some zs => Q (some (ws ++ zs)) H2
theorem RPs.lit {K : PySem.W.Frag} {s : Str} {t : TPs} {q : List DPat} (h : RPs K t q) (hs : SeqAt.shaped (.str s) = true) : RPs K (tPCons (tPLit (rEqA K) (.str s)) t) (.lit s :: q) := by
  intro S H M vs ds Q hl rs hr f
  cases rs with
  | nil => cases hl
  | @cons v d vs ds a b =>
    refine ⟨v, vs, rfl, ?_⟩
    show (rEqA K) v (.str s) H fun b H1 => ∃ c, b = .bl c ∧ kLit t vs Q (if c = true then some [] else none) H1
    cases er : eqLit d s with
    | none =>
      rw [matchP, er] at f
      exact f.elim
    | some r =>
      have fin : ∀ c : Bool, c = r → kLit t vs Q (if c = true then some [] else none) H := by
        rintro c rfl
        rw [matchP, er] at f
        cases c with
        | false => exact f
        | true =>
          show t vs H _
          refine h S H M vs ds _ (by simpa using hl) b hr ?_
          cases e : matchP q ds with
          | none => rw [e] at f; exact f.elim
          | some o =>
            rw [e] at f
            cases o with
            | none => exact f
            | some cs => exact fun ws hw => f ws hw
      have other : ∀ (hd : datD d = true) (sd : SeqAt.shaped (toP d) = true) (ne : PyData.eqv (toP d) (.str s) = r), (rEqA K) v (.str s) H fun b H1 => ∃ c, b = .bl c ∧ kLit t vs Q (if c = true then some [] else none) H1 :=
        fun hd sd ne => .inr ⟨_, _, RD.dp _ _ hd a, .str s, sd, hs, _, rfl, fin _ ne⟩
      cases a with
      | non => cases er; exact .inl ⟨rfl, _, rfl, fin _ (decide_eq_false (by simp))⟩
      | bl b => cases er; exact .inl ⟨rfl, _, rfl, fin _ (decide_eq_false (by simp))⟩
      | int i => cases er; exact .inl ⟨rfl, _, rfl, fin _ (decide_eq_false (by simp))⟩
      | str y =>
        cases er
        refine .inl ⟨rfl, _, rfl, fin _ ?_⟩
        apply decide_eq_decide.mpr
        simp
      | ref p => simp [eqLit, shp, datD] at er
      | ty p => simp [eqLit, shp, datD] at er
      | _ =>
        unfold eqLit at er
        simp only at er
        split at er
        · rename_i e
          cases er
          unfold shp at e
          rw [Bool.and_eq_true] at e
          refine other e.1 e.2 ?_
          rw [eqv_strD]
          rfl
        · cases er
theorem ps_lit {s : Str} {jj : Nat} {p1 p2 : Pos} {ps : List Pattern} {ns : List Str} {t : TPs} {q : List DPat} (hu : X.A.units + 64 < cLine) (h : Pats X ps ns t q) (hs : SeqAt.shaped (.str s) = true := by decide +kernel) :
    Pats X (.MatchValue (.Constant (.str s) jj p1) p2 :: ps) ([] ++ ns) (tPCons (tPLit (rEqA X.K) (.str s)) t) (.lit s :: q) :=
  ⟨pps_cons (ppt_lit (y := .str s) pe_str (opr_or op_eq (op_eqD hu))) h.p, RPs.lit h.r hs⟩
theorem ps_name {s : Str} {p1 : Pos} {ps : List Pattern} {ns : List Str} {t : TPs} {q : List DPat} (h : Pats X ps ns t q) : Pats X (.MatchAs none (some s) p1 :: ps) ([s] ++ ns) (tPCons tPName t) (.name :: q) := by
  refine ⟨pps_cons ppt_name h.p, ?_⟩
  intro S H M vs ds Q hl rs hr f
  cases rs with
  | nil => cases hl
  | @cons v d vs ds a b =>
    refine ⟨v, vs, rfl, ?_⟩
    show t vs H fun o2 H2 => match o2 with | none => Q none H2 | some zs => Q (some ([v] ++ zs)) H2
    refine h.r S H M vs ds _ (by simpa using hl) b hr ?_
    rw [matchP] at f
    cases e : matchP q ds with
    | none => rw [e] at f; exact f.elim
    | some o =>
      rw [e] at f
      cases o with
      | none => exact f
      | some cs => exact fun ws hw => f (v :: ws) (.cons a hw)
theorem ps_any {p1 : Pos} {ps : List Pattern} {ns : List Str} {t : TPs} {q : List DPat} (h : Pats X ps ns t q) : Pats X (.MatchAs none none p1 :: ps) ([] ++ ns) (tPCons tPAny t) (.any :: q) := by
  refine ⟨pps_cons ppt_any h.p, ?_⟩
  intro S H M vs ds Q hl rs hr f
  cases rs with
  | nil => cases hl
  | @cons v d vs ds a b =>
    refine ⟨v, vs, rfl, ?_⟩
    show t vs H fun o2 H2 => match o2 with | none => Q none H2 | some zs => Q (some ([] ++ zs)) H2
    refine h.r S H M vs ds _ (by simpa using hl) b hr ?_
    rw [matchP] at f
    cases e : matchP q ds with
    | none => rw [e] at f; exact f.elim
    | some o =>
      rw [e] at f
      cases o with
      | none => exact f
      | some cs => exact fun ws hw => f ws hw
/-- names -/
structure Bds (X : Cx) (ns : List Str) (g : TGs) (ws : List Nat) (F : DGs) : Prop where
  p : PB X ns g
  r : RGs X.K g ws F
theorem b_nil : Bds X [] gNil [] sNil := ⟨pb_nil, RGs.nil⟩
theorem b_cons (i : Nat) {nm : Str} {ns : List Str} {g : TGs} {ws : List Nat} {F : DGs} (hN : X.N.Nodup) (h : Bds X ns g ws F) (hi : X.N[i]? = some nm := by rfl) (hx : Loc X.env.scope nm := by first | exact Or.inl rfl | exact Or.inr rfl) (hf : X.fn nm = true ∨ X.env.scope.names.lookup nm = some .local := by first | exact .inl rfl | exact .inr rfl | assumption) :
    Bds X (nm :: ns) (gCons (gName i) g) ([i] ++ ws) (sCons (sName i) F) := ⟨pb_cons hN hi hx hf h.p, RGs.cons (RG.name i) h.r⟩
abbrev DCs := Dv → DS
def RCs (K : PySem.W.Frag) (t : V → TS) (F : DCs) : Prop := ∀ (S : Addr → Bool) (σ : L2.St) (H : Hp) (env : DEnv) (M : MH) (D : Ends) (E : DEnds) (v : V) (d : Dv), RD K (hid S M H) v d → RN K (hid S M H) σ env → HR K S M H → F d E env M → Cnv K S M H E D → t v D σ H
structure Cs (X : Cx) (cs : List MatchCase) (t : V → TS) (F : DCs) : Prop where
  p : PCs X cs t
  r : RCs X.K t F
theorem cs_nil : Cs X [] (fun _ D σ H => D.nx σ H) (fun _ => dNext) := ⟨pcs_nil, fun S σ H env M D E v d rd rn hr f c => c.nx env M σ H f Gr.refl rn hr⟩
theorem cs_any {body : List Stmt} {rest : List MatchCase} {pos : Pos} (hb : Ss X body t T) : Cs X (⟨.MatchAs none none pos, none, body⟩ :: rest) (fun _ => t) (fun _ => T) := ⟨pcs_any hb.p, fun S σ H env M D E v d rd rn hr f c => hb.r S σ H env M D E rn hr f c⟩
@[irreducible] def dCase (q : List DPat) (Fs : DGs) (T : DS) (R : DCs) : DCs := fun d E env M => match d with
  | .tup ds => if ds.length = q.length then match matchP q ds with
      | none => False
      | some none => R d E env M
      | some (some cs) => Fs cs env M fun env1 M1 => T E env1 M1
    else R d E env M
  | .non => R d E env M
  | .bl _ => R d E env M
  | .int _ => R d E env M
  | .str _ => R d E env M
  | _ => False
theorem cs_seq {ps : List Pattern} {ns : List Str} {body : List Stmt} {rest : List MatchCase} {tp : TPs} {tg : TGs} {tr : V → TS} {pos : Pos} {q : List DPat} {ws : List Nat} {Fs : DGs} {R : DCs} (hc : X.calm = true) (hp : Pats X ps ns tp q) (hg : Bds X ns tg ws Fs) (hb : Ss X body t T) (hr : Cs X rest tr R)
    (hn : ps.length = q.length := by rfl) (hstar : ps.findIdx? (·.isStar) = none := by rfl) (hwild : (ps.all fun p => p.isWildcard || (p.isStar && p.names.isEmpty)) = false := by rfl) :
    Cs X (⟨.MatchSequence ps pos, none, body⟩ :: rest) (tCase X.K q.length tp tg t tr) (dCase q Fs T R) := by
  refine ⟨pcs_seq hc hp.p hg.p hb.p hr.p hn hstar hwild, ?_⟩
  intro S σ H env M D E v d rd rn hr' f c
  unfold dCase at f
  split at f
  · cases rd with
    | tup ha ra =>
      refine .inr ⟨_, _, rfl, sqT_hid ha, fun nl => ?_, fun yl => ?_⟩
      · rw [if_neg (by rw [← ra.len]; exact nl)] at f
        exact hr.r S σ H env M D E _ _ (.tup ha ra) rn hr' f c
      · rw [if_pos (by rw [← ra.len]; exact yl)] at f
        refine hp.r S H M _ _ _ (by rw [← ra.len]; exact yl) ra hr' ?_
        split at f
        · exact f.elim
        · exact hr.r S σ H env M D E _ _ (.tup ha ra) rn hr' f c
        · rename_i cs e
          intro ws hw
          refine hg.r S σ H ws cs env M _ _ hw rn hr' f fun env1 M1 σ1 H1 f1 g1 rn1 hr1 _ => ?_
          exact hb.r S σ1 H1 env1 M1 D E rn1 hr1 f1 (c.from g1)
  · cases rd; exact .inl ⟨trivial, hr.r S σ H env M D E _ _ .non rn hr' f c⟩
  · cases rd; exact .inl ⟨trivial, hr.r S σ H env M D E _ _ (.bl _) rn hr' f c⟩
  · cases rd; exact .inl ⟨trivial, hr.r S σ H env M D E _ _ (.int _) rn hr' f c⟩
  · cases rd; exact .inl ⟨trivial, hr.r S σ H env M D E _ _ (.str _) rn hr' f c⟩
  · exact f.elim
def dMatch (A : DE) (F : DCs) : DS := fun E env M => A env M fun d M1 => F d E env M1
theorem s_match {cs : List MatchCase} {tc : V → TS} {F : DCs} (h : Ex X e te A) (hc : Cs X cs tc F) : Sm X (.Match e cs pos) (tMatch te tc) (dMatch A F) := by
  refine ⟨ps_match h.p hc.p, ?_⟩
  intro S σ H env M D E rn hr f c
  refine h.r S σ H env M _ _ rn hr f fun d M1 v H1 f1 g1 r1 hr1 => ?_
  exact hc.r S σ H1 env M1 D E v d r1 (rn.same g1.same) hr1 f1 (c.from g1)
/-! ## lists that change -/
/-- a method of a list with one argument -/
def dMeth1 (A : DE) (G : DA) (g : Addr → List Dv → List Dv → MH → DK → Prop) : DE := fun env M Q => A env M fun o M1 => match o with
  | .ref p => match M1 p with
    | some (.lst _) => G env M1 fun ds M2 => match M2 p with
      | some (.lst xs) => g p xs ds M2 Q
      | _ => False
    | _ => False
  | _ => False
def RMt (K : PySem.W.Frag) (r : V → List V → Hp → VK → Prop) (g : Addr → List Dv → List Dv → MH → DK → Prop) : Prop := ∀ (S : Addr → Bool) (H : Hp) (p : Addr) (vs : List V) (xs ds : List Dv) (M : MH) (Q : VK) (R : DK), M p = some (.lst xs) → RDs K (hid S M H) vs ds → HR K S M H → g p xs ds M R →
  (∀ d M' v H', R d M' → Gr S M H M' H' → RD K (hid S M' H') v d → HR K S M' H' → Q v H') → r (.ref p) vs H Q
theorem RE.meth1 {K : PySem.W.Frag} {r : V → List V → Hp → VK → Prop} {g : Addr → List Dv → List Dv → MH → DK → Prop} (hm : RMt K r g) (h1 : RE K to_ A) (h2 : RA K tt n G) : RE K (tBM K "list" r to_ tt) (dMeth1 A G g) := by
  intro S σ H env M Q R rn hr f q
  refine h1 S σ H env M _ _ rn hr f fun o M1 v H1 f1 g1 r1 hr1 => ?_
  split at f1
  · cases r1
    split at f1
    · rename_i e1
      obtain ⟨u, z1, z2⟩ := hr1.obj _ _ e1
      cases z2 with
      | lst ra =>
        refine ⟨.inl ⟨rfl, _, SqL.of z1⟩, ?_⟩
        refine h2 S σ H1 env M1 _ _ (rn.same g1.same) hr1 f1 fun ds M2 vs H2 f2 l2 g2 r2 hr2 => ?_
        split at f2
        · rename_i e2
          exact hm S H2 _ vs _ ds M2 Q R e2 r2 hr2 f2 fun d M' v H' h k rd hr' => q d M' v H' h ((g1.trans g2).trans k) rd hr'
        · exact f2.elim
    · exact f1.elim
  · exact f1.elim
theorem RE.meth0 {K : PySem.W.Frag} {r : V → List V → Hp → VK → Prop} {g : Addr → List Dv → List Dv → MH → DK → Prop} (hm : RMt K r g) (h1 : RE K to_ A) : RE K (tBM0 K "list" r to_) (dMeth1 A dANil g) := by
  intro S σ H env M Q R rn hr f q
  refine h1 S σ H env M _ _ rn hr f fun o M1 v H1 f1 g1 r1 hr1 => ?_
  split at f1
  · cases r1
    split at f1
    · rename_i e1
      obtain ⟨u, z1, z2⟩ := hr1.obj _ _ e1
      cases z2 with
      | lst ra =>
        refine ⟨.inl ⟨rfl, _, SqL.of z1⟩, ?_⟩
        have f1 : match M1 _ with | some (.lst xs) => g _ xs [] M1 R | _ => False := f1
        split at f1
        · rename_i e2
          exact hm S H1 _ [] _ [] M1 Q R e2 .nil hr1 f1 fun d M' v H' h k rd hr' => q d M' v H' h (g1.trans k) rd hr'
        · exact f1.elim
    · exact f1.elim
  · exact f1.elim
def gApp : Addr → List Dv → List Dv → MH → DK → Prop := fun p xs ds M Q => match ds with
  | [y] => xs.length < sizeLine ∧ Q .non (mup M p (.lst (xs ++ [y])))
  | _ => False
theorem mt_app {K : PySem.W.Frag} : RMt K rAppend gApp := by
  intro S H p vs xs ds M Q R e rs hr f q
  unfold gApp at f
  split at f
  · obtain ⟨v, rfl, rd⟩ := rs.one
    obtain ⟨u, z1, z2⟩ := hr.obj _ _ e
    cases z2 with
    | lst ra =>
      obtain ⟨g, hr'⟩ := hr.put (o := .lst (_ ++ [v])) e (.lst (ra.app (.cons rd .nil)))
      exact ⟨p, _, v, rfl, rfl, z1, by rw [ra.len]; exact f.1, q _ _ _ _ f.2 g .non hr'⟩
  · exact f.elim
def gExt : Addr → List Dv → List Dv → MH → DK → Prop := fun p xs ds M Q => match ds with
  | [.lst ys] => xs.length + ys.length ≤ sizeLine ∧ Q .non (mup M p (.lst (xs ++ ys)))
  | _ => False
theorem mt_ext {K : PySem.W.Frag} : RMt K rExtend gExt := by
  intro S H p vs xs ds M Q R e rs hr f q
  unfold gExt at f
  split at f
  · obtain ⟨v, rfl, rd⟩ := rs.one
    obtain ⟨u, z1, z2⟩ := hr.obj _ _ e
    cases z2 with
    | lst ra =>
      cases rd with
      | lst hb rb =>
        obtain ⟨g, hr'⟩ := hr.put (o := .lst (_ ++ _)) e (.lst (ra.app rb))
        exact ⟨p, _, _, _, rfl, rfl, z1, (hid_some hb).1, by rw [ra.len, rb.len]; exact f.1, q _ _ _ _ f.2 g .non hr'⟩
  · exact f.elim
def gPop : Addr → List Dv → List Dv → MH → DK → Prop := fun p xs ds M Q => match ds, xs[xs.length - 1]? with
  | [], some y => Q y (mup M p (.lst xs.dropLast))
  | _, _ => False
theorem RDs.init {K : PySem.W.Frag} {G : Hp} {vs : List V} {ds : List Dv} (h : RDs K G vs ds) : RDs K G vs.dropLast ds.dropLast := by
  rw [List.dropLast_eq_take, List.dropLast_eq_take, h.len]
  exact h.take _
theorem mt_popD {K : PySem.W.Frag} : RMt K rPop gPop := by
  intro S H p vs xs ds M Q R e rs hr f q
  unfold gPop at f
  split at f
  · rename_i y ey
    cases rs
    obtain ⟨u, z1, z2⟩ := hr.obj _ _ e
    cases z2 with
    | lst ra =>
      obtain ⟨v, ev, rd⟩ := ra.at ey
      obtain ⟨g, hr'⟩ := hr.put (o := .lst _) e (.lst ra.init)
      exact ⟨p, _, v, rfl, rfl, z1, by rw [ra.len]; exact ev, q _ _ _ _ f g (RD.same g.same _ _ rd) hr'⟩
  · exact f.elim
theorem d_append (h1 : Ex X o to_ A) (h2 : As X (e :: es) tt n G) {ap : Pos} (st : starEach (e :: es) X.env = (false, eval e X.env) :: starEach es X.env := by rfl) (pl : (backTo pos (starEach es X.env)).any (·.1) = false := by rfl) (hp : PE X (.Call (.Attribute o "append" ap) (e :: es) [] pos) (tBM X.K "list" rAppend to_ tt)) :
    Ex X (.Call (.Attribute o "append" ap) (e :: es) [] pos) (tBM X.K "list" rAppend to_ tt) (dMeth1 A G gApp) := ⟨hp, RE.meth1 mt_app h1.r h2.r⟩
/-- xs[i] = v -/
def dPut (A O I : DE) : DS := fun E env M => A env M fun v M1 => O env M1 fun o M2 => I env M2 fun i M3 => match o, i with
  | .ref p, .int k => match M3 p with
    | some (.lst xs) => match ixN xs.length k with
      | some j => E.nx env (mup M3 p (.lst (xs.set j v)))
      | none => False
    | _ => False
  | _, _ => False
theorem RDs.set {K : PySem.W.Frag} {G : Hp} {v : V} {d : Dv} (r : RD K G v d) : ∀ {vs : List V} {ds : List Dv} (j : Nat), RDs K G vs ds → RDs K G (vs.set j v) (ds.set j d)
  | _, _, _, .nil => .nil
  | _, _, 0, .cons _ b => .cons r b
  | _, _, j + 1, .cons a b => .cons a (RDs.set r j b)
theorem s_putL {te2 ti2 : TE} {A O I2 : DE} {st : Stmt} (h : PS X st (tAsg te (gSub te2 ti2 rSetL))) (h1 : RE X.K te A) (h2 : RE X.K te2 O) (h3 : RE X.K ti2 I2) : Sm X st (tAsg te (gSub te2 ti2 rSetL)) (dPut A O I2) := by
  refine ⟨h, ?_⟩
  intro S σ H env M D E rn hr f c
  refine h1 S σ H env M _ _ rn hr f fun v M1 x H1 f1 g1 r1 hr1 => ?_
  refine h2 S σ H1 env M1 _ _ (rn.same g1.same) hr1 f1 fun o M2 y H2 f2 g2 r2 hr2 => ?_
  refine h3 S σ H2 env M2 _ _ (rn.same (g1.trans g2).same) hr2 f2 fun i M3 z H3 f3 g3 r3 hr3 => ?_
  split at f3
  · split at f3
    · rename_i e
      split at f3
      · rename_i j ej
        cases r2
        cases r3
        obtain ⟨u, z1, z2⟩ := hr3.obj _ _ e
        cases z2 with
        | lst ra =>
          have rx := RD.same (g2.trans g3).same _ _ r1
          obtain ⟨g, hr'⟩ := hr3.put (o := .lst _) e (.lst (ra.set rx j))
          have gg := ((g1.trans g2).trans g3).trans g
          exact ⟨_, _, _, j, rfl, rfl, z1, by rw [ra.len]; exact ej, c.nx env _ σ _ f3 gg (rn.same gg.same) hr'⟩
      · exact f3.elim
    · exact f3.elim
  · exact f3.elim
end
end Vk
set_option linter.unusedVariables false
namespace Vk
open PySem PySem.Spec PyProof.Rows L2
/-! # The data layer: texts times numbers, methods of lists, small things -/
/-- a text n times -/
def repS (z : Str) (n : Nat) : Str := ⟨(List.replicate n z.cps).foldl (· ++ ·) #[]⟩
theorem foldS (l : List (Array Nat)) : ∀ acc : Array Nat, l.foldl (· ++ ·) acc = acc ++ l.foldl (· ++ ·) #[] := by
  induction l with
  | nil => intro acc; simp
  | cons a r ih =>
    intro acc
    rw [List.foldl_cons, ih, List.foldl_cons, ih (#[] ++ a)]
    simp [Array.append_assoc]
theorem repS_size (z : Array Nat) : ∀ n, ((List.replicate n z).foldl (· ++ ·) #[]).size = n * z.size
  | 0 => by simp
  | n + 1 => by
    have ih := repS_size z n
    rw [List.replicate_succ, List.foldl_cons, foldS]
    simp only [Array.size_append, ih]
    simp only [Array.size_empty]
    rw [Nat.succ_mul]
    omega
theorem repS_length (z : Str) (n : Nat) : (repS z n).length = n * z.length := repS_size z.cps n
theorem repS_codes (z : Str) : ∀ n, (repS z n).cps.toList = (List.replicate n z.cps.toList).flatten
  | 0 => by simp [repS]
  | n + 1 => by
    have ih := repS_codes z n
    unfold repS at ih ⊢
    rw [List.replicate_succ, List.foldl_cons, foldS, List.replicate_succ, List.flatten_cons]
    simp only [Array.toList_append] at ih ⊢
    rw [ih]
    simp
def rMulE : R2 := fun x y H Q => ∃ z n, x = .str z ∧ y = .int n ∧ 0 ≤ n ∧ n ≤ 1000 ∧ z.length ≤ 1000 ∧ Q (.str (repS z n.toNat)) H
section
variable {X : Cx} {a b c e o : Expr} {es : List Expr} {ta tb tc te to_ : TE} {ti tj : TT} {tt : TA} {n k j : Nat} {A B C D : DE} {I J : DT} {G : DA} {pos p apos : Pos} {F : DF} {x : Str} {sts : List Stmt} {t : TS} {T : DS}
theorem str_nil {z : Str} (h : z.length = 0) : z = Str.empty := by
  cases z with
  | mk c =>
    have : c = #[] := Array.eq_empty_of_size_eq_zero h
    rw [this]
    rfl
theorem op_mulE : OpR X (binaryOp .Mult) rMulE := by
  intro pins s σ H x y v u Q I rx ry h
  obtain ⟨z, n, rfl, rfl, n0, n1, hz, q⟩ := h
  obtain ⟨t, rfl⟩ := rx
  obtain ⟨t', rfl⟩ := ry
  have hline : (sizeLine : Nat) = 16777216 := sizeLine_eq
  have hz2 : z.length * n.toNat ≤ 1000 * 1000 := Nat.mul_le_mul hz (by omega)
  refine PySem.P.mul_str ?_ ?_ ?_ ?_
  · have h1 : ¬ n < -(2 ^ 63 : Int) := by omega
    have h2 : ¬ n ≥ 2 ^ 63 := by omega
    rw [decide_eq_false h1, decide_eq_false h2]
    rfl
  · intro h1 _ h3
    have h4 : (z.length : Int) * n ≤ 2 ^ 63 - 1 := by
      have e : (z.length : Int) * n = ((z.length * n.toNat : Nat) : Int) := by
        rw [Int.natCast_mul, Int.toNat_of_nonneg n0]
      rw [e]
      omega
    have h5 := Int.le_ediv_of_mul_le (show 0 < n by omega) h4
    omega
  · intro _ _
    unfold Builtin.Str.tooLong
    exact decide_eq_false (by omega)
  · split
    · rename_i c1
      have e : repS z n.toNat = Str.empty := str_nil (by rw [repS_length, show n.toNat = 0 by omega]; omega)
      rw [e] at q
      exact ⟨by decide, .str Str.empty, H, I.tok _, ⟨_, rfl⟩, q⟩
    · split
      · rename_i c1 c2
        have ez : repS z n.toNat = z := by
          rcases Bool.or_eq_true_iff.mp c2 with e | e
          · have e2 : n = 1 := by simpa using e
            subst e2
            show repS z 1 = z
            unfold repS
            simp
          · have e2 : z.length = 0 := by simpa using e
            rw [str_nil e2]
            exact str_nil (by rw [repS_length]; show _ * 0 = 0; omega)
        rw [ez] at q
        exact ⟨.str z, H, I, ⟨_, rfl⟩, q⟩
      · have sz : (repS z n.toNat).length = z.length * n.toNat := by rw [repS_length, Nat.mul_comm]
        exact ⟨by unfold repS at sz; rw [sz]; omega, .str _, H, I.tok _, ⟨_, rfl⟩, q⟩
def gMul : DO := fun x y M Q => match x, y with
  | .int i, .int j => CMul i j ∧ Q (.int (i * j)) M
  | .str z, .int k => (0 ≤ k ∧ k ≤ 1000 ∧ z.length ≤ 1000) ∧ Q (.str (repS z k.toNat)) M
  | .tup ds, .int k => (ds ≠ [] ∧ 2 ≤ k ∧ k ≤ 1000 ∧ ds.length ≤ 1000) ∧ Q (.tup (List.replicate k.toNat ds).flatten) M
  | _, _ => False
abbrev rMulA (K : PySem.W.Frag) : R2 := fun x y H Q => rI CMul (fun i j => .int (i * j)) x y H Q ∨ rMulE x y H Q ∨ rRepT K x y H Q
theorem o_mulA : Op X (binaryOp .Mult) (rMulA X.K) gMul := by
  refine ⟨opr_or op_mul (opr_or op_mulE op_repT), ?_⟩
  intro S H x y dx dy M Q R rx ry hr f q
  unfold gMul at f
  split at f
  · cases rx
    cases ry
    exact .inl ⟨_, _, rfl, rfl, f.1, q _ M _ H f.2 Gr.refl (.int _) hr⟩
  · cases rx
    cases ry
    obtain ⟨⟨h1, h2, h3⟩, f⟩ := f
    exact .inr (.inl ⟨_, _, rfl, rfl, h1, h2, h3, q _ M _ H f Gr.refl (.str _) hr⟩)
  · obtain ⟨⟨h1, h2, h3, h4⟩, f⟩ := f
    cases ry
    cases rx with
    | tup ha ra =>
      refine .inr (.inr ⟨_, _, _, rfl, rfl, sqT_hid ha, fun z => h1 (ra.isNil.mp z), h2, h3, by rw [ra.len]; exact h4, fun p hp => ?_⟩)
      obtain ⟨g, hr', rd⟩ := RD.newT hr hp (ra.rep _)
      exact q _ M _ _ f g rd hr'
  · exact f.elim
/-- a method of a list, by its rule -/
theorem d_bm {id : String} {name : Str} {r : V → List V → Hp → VK → Prop} {g : Addr → List Dv → List Dv → MH → DK → Prop} {cpos : Pos} (pa : PlainAttrs "list") (slot : Slot "list" name id) (hty : typeOf (.builtin id) = pure (.type "method_descriptor")) (hm : MtR X id r) (hR : RMt X.K r g) (h1 : Ex X o to_ A) (h2 : As X (e :: es) tt n G)
    (hbase : attributeBase o name X.env (eval o X.env) = eval o X.env := by rfl)
    (hfew : ((backTo cpos (starEach (e :: es) X.env)).all (fun x => !x.1) && (backToKw cpos (keywordEach [] X.env)).all (fun x => x.1.isSome)
      && decide ((e :: es).length + ([] : List Keyword).length + (if ([] : List Keyword).isEmpty then 0 else 1) < 30)) = true := by rfl)
    (hline : (apos.endLine == cpos.line) = true := by rfl) (hs : starEach (e :: es) X.env = (false, eval e X.env) :: starEach es X.env := by rfl) (hplain : (backTo cpos (starEach es X.env)).any (·.1) = false := by rfl) :
    Ex X (.Call (.Attribute o name apos) (e :: es) [] cpos) (tBM X.K "list" r to_ tt) (dMeth1 A G g) := ⟨pe_bm pa slot hty hm h1.p h2.p hbase hfew hline hs hplain, RE.meth1 hR h1.r h2.r⟩
theorem d_bm0 {id : String} {name : Str} {r : V → List V → Hp → VK → Prop} {g : Addr → List Dv → List Dv → MH → DK → Prop} {cpos : Pos} (pa : PlainAttrs "list") (slot : Slot "list" name id) (hty : typeOf (.builtin id) = pure (.type "method_descriptor")) (hm : MtR X id r) (hR : RMt X.K r g) (h1 : Ex X o to_ A)
    (hbase : attributeBase o name X.env (eval o X.env) = eval o X.env := by rfl) (hline : (apos.endLine == cpos.line) = true := by rfl) :
    Ex X (.Call (.Attribute o name apos) [] [] cpos) (tBM0 X.K "list" r to_) (dMeth1 A dANil g) := ⟨pe_bm0 pa slot hty hm h1.p hbase hline, RE.meth0 hR h1.r⟩
theorem units5 {k : Nat} {A : Around} (r : Room k A) : A.units + 65 < cLine := by have := r.un; omega
/-! ## constants of the module -/
theorem rd_tupK {K : PySem.W.Frag} {a : Addr} {od : Option Addr} {its : Array Value} {m : Nat} {sl : Array (Option Value)} {vs : List V} {ds : List Dv} (h : K.lookup a = some ⟨.type "tuple", od, .seq its m, sl⟩) (hz : its.size ≤ sizeLine) (hv : Vals vs its.toList) (G : Hp) (hd : RDs K G vs ds) : RD K G (.ref a) (.tup ds) :=
  .tup (.inr ⟨_, its, m, h, rfl, rfl, hz, hv⟩) hd
theorem d_cint {x : Str} {i : Int} {pos : Pos} (hg : Gl X x) (h : ∃ t, X.mg x = some (.int i t)) (hd : (x == ("__debug__" : Str)) = false := by decide) : Ex X (.Name x pos) (tC (.int i)) (dC (.int i)) := by
  obtain ⟨t, h⟩ := h
  exact d_glob hg h ⟨_, rfl⟩ (fun _ => .int i) hd
theorem d_ctup {x : Str} {ds : List Dv} {a : Addr} {pos : Pos} (hg : Gl X x) (h : X.mg x = some (.ref a)) (hr : ∀ G, RD X.K G (.ref a) (.tup ds)) (hd : (x == ("__debug__" : Str)) = false := by decide) : Ex X (.Name x pos) (tC (.ref a)) (dC (.tup ds)) :=
  d_glob (v := .ref a) hg h rfl hr hd
/-! ## invariants that are often wanted -/
/-- a comprehension whose items do not change the state -/
theorem dLc_map {W : DI} {g : DG} {A : DE} {vs : List Nat} {env : DEnv} {M : MH} {Q : DK} (items : List Dv) (f : Dv → Dv) (inv : MH → Prop) (hW : ∀ R : List Dv → (MH → Prop) → MH → Prop, R items inv M → W env M R) (hz : items.length ≤ sizeLine) (hin : inv M)
    (step : ∀ d, d ∈ items → ∀ R : DK, R (f d) M → g d (wipeD env vs) M fun env1 M2 => A env1 M2 R) (q : Q (.lst (items.map f)) M) : dLc W g dYes A vs env M Q := by
  unfold dLc
  refine hW _ ⟨hz, fun i acc M' => acc = (items.take i).map f ∧ M' = M, ⟨by simp, rfl⟩, fun i acc M' h => by rw [h.2]; exact hin, ?_, ?_⟩
  · rintro i d acc M' hd ⟨rfl, rfl⟩
    have hmem : d ∈ items := List.mem_of_getElem? hd
    exact step d hmem (fun y M4 => (items.take i).map f ++ [y] = (items.take (i + 1)).map f ∧ M4 = M') ⟨by rw [take_next hd, List.map_append]; rfl, rfl⟩
  · rintro acc M' ⟨rfl, rfl⟩
    rw [List.take_length]
    exact q
/-- a comprehension whose items do not change the state, told by a property of each item -/
theorem dLc_at {W : DI} {g : DG} {A : DE} {vs : List Nat} {env : DEnv} {M : MH} {Q : DK} (items : List Dv) (p : Nat → Dv → Prop) (inv : MH → Prop) (hW : ∀ R : List Dv → (MH → Prop) → MH → Prop, R items inv M → W env M R) (hz : items.length ≤ sizeLine) (hin : inv M)
    (step : ∀ i d, items[i]? = some d → ∀ R : DK, (∀ y, p i y → R y M) → g d (wipeD env vs) M fun env1 M2 => A env1 M2 R) (q : ∀ acc, acc.length = items.length → (∀ i y, acc[i]? = some y → p i y) → Q (.lst acc) M) : dLc W g dYes A vs env M Q := by
  unfold dLc
  refine hW _ ⟨hz, fun i acc M' => (acc.length = i ∧ ∀ j y, acc[j]? = some y → p j y) ∧ M' = M, ⟨⟨rfl, fun j y h => by simp at h⟩, rfl⟩, fun i acc M' h => by rw [h.2]; exact hin, ?_, ?_⟩
  · rintro i d acc M' hd ⟨⟨hl, hp⟩, rfl⟩
    refine step i d hd (fun y M4 => ((acc ++ [y]).length = i + 1 ∧ ∀ j z, (acc ++ [y])[j]? = some z → p j z) ∧ M4 = M') fun y hy => ⟨⟨by rw [List.length_append, hl]; rfl, fun j z hz => ?_⟩, rfl⟩
    by_cases c : j < acc.length
    · rw [List.getElem?_append_left c] at hz
      exact hp j z hz
    · rw [List.getElem?_append_right (by omega)] at hz
      cases e : j - acc.length with
      | zero =>
        rw [e] at hz
        simp at hz
        subst hz
        have : j = i := by omega
        rw [this]
        exact hy
      | succ m =>
        rw [e] at hz
        simp at hz
  · rintro acc M' ⟨⟨hl, hp⟩, rfl⟩
    exact q acc hl hp
/-- a for in which every turn leaves names and state as they were, or returns -/
theorem forI_same {g : DG} {body : DS} {E : DEnds} {env : DEnv} {M : MH} (items : List Dv) (inv : MH → Prop) (hin : inv M) (I : DEnv → Prop) (h0 : I env)
    (step : ∀ d, d ∈ items → ∀ e, I e → g d e M fun env1 M1 => body { E with nx := fun e' M' => I e' ∧ M' = M, ct := fun e' M' => I e' ∧ M' = M, bk := E.nx } env1 M1) (fin : ∀ e, I e → E.nx e M) :
    ∃ I : Nat → DEnv → MH → Prop, I 0 env M ∧ (∀ i env M, I i env M → inv M) ∧ (∀ i d env M, items[i]? = some d → I i env M → g d env M fun env1 M1 => body { E with nx := I (i + 1), ct := I (i + 1), bk := E.nx } env1 M1) ∧ ∀ env M, I items.length env M → E.nx env M := by
  refine ⟨fun i e M' => I e ∧ M' = M, ⟨h0, rfl⟩, fun i e M' h => by rw [h.2]; exact hin, ?_, ?_⟩
  · rintro i d e M' hd ⟨he, rfl⟩
    exact step d (List.mem_of_getElem? hd) e he
  · rintro e M' ⟨he, rfl⟩
    exact fin e he
theorem dFor_same {W : DI} {g : DG} {body : DS} {E : DEnds} {env : DEnv} {M : MH} (items : List Dv) (inv : MH → Prop) (hW : ∀ R : List Dv → (MH → Prop) → MH → Prop, R items inv M → W env M R) (hin : inv M) (I : DEnv → Prop) (h0 : I env)
    (step : ∀ d, d ∈ items → ∀ e, I e → g d e M fun env1 M1 => body { E with nx := fun e' M' => I e' ∧ M' = M, ct := fun e' M' => I e' ∧ M' = M, bk := E.nx } env1 M1) (fin : ∀ e, I e → E.nx e M) : dFor W g body E env M := by
  unfold dFor
  exact hW _ (forI_same items inv hin I h0 step fin)
end
/-! ## a def that leaves objects of its own behind -/
def MLe (M M' : MH) : Prop := ∀ a o, M a = some o → M' a = some o
theorem MLe.refl {M : MH} : MLe M M := fun _ _ h => h
theorem MLe.up {M : MH} {p : Addr} {o : MO} (h : M p = none) : MLe M (mup M p o) := fun a u e => by
  rw [mup_ne (fun z => by subst z; rw [h] at e; cases e)]
  exact e
theorem MLe.hid {S : Addr → Bool} {M M' : MH} {H : Hp} (h : MLe M M') : Same (hid S M' H) (hid S M H) := fun a o e => by
  obtain ⟨y1, y2, y3⟩ := hid_some e
  rw [hid_of y2]
  · exact y1
  · cases c : M a with
    | none => rfl
    | some u => rw [h a u c] at y3; cases y3
theorem HR.less {K : PySem.W.Frag} {S : Addr → Bool} {M M' : MH} {H : Hp} (h : MLe M M') (r : HR K S M' H) : HR K S M H := by
  refine ⟨fun a o e => ?_, fun a ha => ?_⟩
  · obtain ⟨u, y1, y2⟩ := r.obj a o (h a o e)
    exact ⟨u, y1, y2.same h.hid⟩
  · obtain ⟨y1, y2⟩ := r.apart a ha
    refine ⟨?_, y2⟩
    cases c : M a with
    | none => rfl
    | some u => rw [h a u c] at y1; cases y1
theorem Gr.less {S : Addr → Bool} {M M1 M' : MH} {H H' : Hp} (h : MLe M1 M') (g : Gr S M H M' H') : Gr S M H M1 H' := ⟨g.same.trans h.hid, g.hold⟩
theorem dfunG {P : Program} {w : World} {K : PySem.W.Frag} {mg : Str → Option Value} {base : Heap} {k : Nat} {f : Addr} {fd : FuncData} {ps N : List Str} {x qual : Str} {st : Stmt} {F : DF}
    (Fn : L2.Fun K x qual st f fd) (S : FnScope N ps (defScope st)) (len : ∀ ds M R, F ds M R → ds.length = ps.length)
    (body : ∀ (cd : Value) (A : Around) (out : List Env) (s : Shared) (H : Hp) (E : XK), (A.deeper (envOfC qual (defScope st) s.heap.objs.size f cd)).guards = some [] → Room k (A.deeper (envOfC qual (defScope st) s.heap.objs.size f cd)) →
      ∃ t G, Ss (cxOf CX0 P w K mg base N qual (defScope st) f cd A out s H E).nox (defBody st) t G ∧
        ∀ ds M (R : DK), F ds M R → G { nx := fun _ M' => ∃ M'', MLe M'' M' ∧ R .non M'', rt := fun d M' => ∃ M'', MLe M'' M' ∧ R d M'' } (dstart N ds) M) : Gk P w K mg base (k + 1) f fd ps (spD K F) := by
  refine okG Fn S (fun vs H Q E h => ?_) (fun cd A out s H vs Q E hg hr h => ?_)
  · obtain ⟨S', ds, M, R, h1, _, h2, _⟩ := h
    rw [h1.len]
    exact len ds M R h2
  · obtain ⟨S', ds, M, R, h1, hr', h2, q⟩ := h
    obtain ⟨t, G, hs, hb⟩ := body cd A out s H E hg hr
    refine ⟨t, hs.p, ?_⟩
    refine hs.r S' (L2.start N vs) H (dstart N ds) M _ _ (RN.start N h1) hr' (hb ds M R h2) ⟨fun env' M' σ' H' e g rn hr2 => ?_, fun _ _ _ _ e _ _ _ => e.elim, fun _ _ _ _ e _ _ _ => e.elim, fun d M' v H' e g rd hr2 => ?_⟩
    · obtain ⟨M'', l, e⟩ := e
      exact q .non M'' .non H' e (g.less l) .non (hr2.less l)
    · obtain ⟨M'', l, e⟩ := e
      exact q d M'' v H' e (g.less l) (RD.same l.hid _ _ rd) (hr2.less l)
end Vk
set_option linter.unusedVariables false
namespace Vk
open PySem PySem.Spec PyProof.Rows L2
/-! # The data layer: the rules with the written part named (a comprehension's block wants readings that do not name its context) -/
section
variable {X : Cx} {K : PySem.W.Frag} {a b c e o tg : Expr} {es : List Expr} {ta tb tc te to_ : TE} {ti tj : TT} {tt : TA} {n k j : Nat} {A B C D : DE} {I J : DT} {G : DA} {pos p apos : Pos} {F : DF} {x : Str} {sts : List Stmt} {t : TS} {T : DS}
theorem k_add (hK : X.K = K := by rfl) : Op X (binaryOp .Add) (rAddA K) gAdd := by subst hK; exact o_add
theorem k_mul (hK : X.K = K := by rfl) : Op X (binaryOp .Mult) (rMulA K) gMul := by subst hK; exact o_mulA
theorem k_in (hu : X.A.units + 65 < cLine) (hK : X.K = K := by rfl) : Op X (compareOp .In) (rInB K) (gIn fun b => b) := by subst hK; exact o_in hu
theorem k_notIn (hu : X.A.units + 65 < cLine) (hK : X.K = K := by rfl) : Op X (compareOp .NotIn) (rNotInB K) (gIn fun b => !b) := by subst hK; exact o_notIn hu
theorem k_eq (hu : X.A.units + 64 < cLine) (hK : X.K = K := by rfl) : Op X (compareOp .Eq) (rEqA K) (gEq fun b => b) := by subst hK; exact o_eq hu
theorem k_ne (hu : X.A.units + 64 < cLine) (hK : X.K = K := by rfl) : Op X (compareOp .NotEq) (rNeA K) (gEq fun b => !b) := by subst hK; exact o_ne hu
abbrev rLenA (K : PySem.W.Frag) : List V → Hp → VK → Prop := fun xs H Q => ∃ x n, xs = [x] ∧ LenV K x H n ∧ Q (.int n) H
theorem k_len (hK : X.K = K := by rfl) : Cb X (.builtin "len") (rLenA K) gLen := by subst hK; exact c_len
abbrev rTupA (K : PySem.W.Frag) : List V → Hp → VK → Prop := fun xs H Q => ∃ p ys, xs = [.ref p] ∧ ((SqL K H p ys ∧ ∀ l, H l = none → Q (.ref l) (upd H l (.tup ys))) ∨ (SqT K H p ys ∧ Q (.ref p) H))
theorem k_tuple (hK : X.K = K := by rfl) : Cb X (.type "tuple") (rTupA K) gTupOf := by subst hK; exact c_tuple
abbrev rLstA (K : PySem.W.Frag) : List V → Hp → VK → Prop := fun xs H Q => ∃ p ys, xs = [.ref p] ∧ (SqL K H p ys ∨ SqT K H p ys) ∧ ∀ l, H l = none → Q (.ref l) (upd H l (.lst ys))
theorem k_list (hK : X.K = K := by rfl) : Cb X (.type "list") (rLstA K) gLstOf := by subst hK; exact c_list
theorem k_all (hc : X.calm = true) (hK : X.K = K := by rfl) : Cb X (.builtin "all") (rAll K) (gAll fun bs => bs.all id) := by subst hK; exact c_all hc
theorem k_any (hc : X.calm = true) (hK : X.K = K := by rfl) : Cb X (.builtin "any") (rAny K) (gAll fun bs => bs.any id) := by subst hK; exact c_any hc
theorem k_isi (hK : X.K = K := by rfl) : Cb X (.builtin "isinstance") (rIsi K) gIsi := by subst hK; exact c_isi
theorem k_type (hK : X.K = K := by rfl) : Cb X (.type "type") (rTypX K) gTy := by subst hK; exact c_type
theorem k_ix (h1 : Ex X a ta A) (h2 : Ex X b tb B) (hs : PlainIx b := by exact fun _ _ => rfl) (hK : X.K = K := by rfl) : Ex X (.Subscript a b pos) (tOp (fun x y H Q => rIxL K x y H Q ∨ (rIxT K x y H Q ∨ rIxS x y H Q)) ta tb) (dOp gIx A B) := by subst hK; exact d_ix h1 h2 hs
theorem k_slice {lo hi : Option Expr} {p2 : Pos} {tl th : TO} {L U : DP} (h : Ex X e te A) (hl : Pt X lo tl L) (hu : Pt X hi th U) (hK : X.K = K := by rfl) :
    Ex X (.Subscript e (.Slice lo hi none p2) pos) (tSl (fun x lo hi H Q => rSlL K x lo hi H Q ∨ (rSlA K x lo hi H Q ∨ rSlS x lo hi H Q)) te tl th) (dSl A L U) := by subst hK; exact d_slice h hl hu
theorem k_call (hg : X.A.guards = some []) (C : DCal X.prog X.w X.K X.mg X.base x k F) (hr : Room j X.A) (gl : Gl X x) (h : As X (e :: es) tt n G) (hk : k ≤ j := by decide) (dbg : (x == ("__debug__" : Str)) = false := by decide)
    (st : starEach (e :: es) X.env = (false, eval e X.env) :: starEach es X.env := by rfl) (pl : (backTo pos (starEach es X.env)).any (·.1) = false := by rfl) (hK : X.K = K := by rfl) : Ex X (.Call (.Name x p) (e :: es) [] pos) (tCall (spD K F) [] E0 tt) (dCall F G) := by
  subst hK
  exact d_call hg C hr gl h hk dbg st pl
theorem k_call0 (hg : X.A.guards = some []) (C : DCal X.prog X.w X.K X.mg X.base x k F) (hr : Room j X.A) (gl : Gl X x) (hk : k ≤ j := by decide) (dbg : (x == ("__debug__" : Str)) = false := by decide) (hK : X.K = K := by rfl) :
    Ex X (.Call (.Name x p) [] [] pos) (tCall (spD K F) [] E0 tNil) (dCall F dANil) := by
  subst hK
  exact d_call0 hg C hr gl hk dbg
theorem k_callv {P : Program} {w : World} {mg : Str → Option Value} {base : Heap} (i : Nat) (hg : X.A.guards = some []) (hr : Room j X.A) (h : As X (e :: es) tt n G) (hN : X.N[i]? = some x := by rfl) (hv : Vis X.env.scope x := by first | exact Or.inl rfl | exact Or.inr (Or.inl rfl) | exact Or.inr (Or.inr rfl))
    (hd : (x == ("__debug__" : Str)) = false := by decide) (hcd : (x == ("__classdict__" : Str)) = false := by decide)
    (st : starEach (e :: es) X.env = (false, eval e X.env) :: starEach es X.env := by rfl) (pl : (backTo pos (starEach es X.env)).any (·.1) = false := by rfl) (hP : X.prog = P := by rfl) (hw : X.w = w := by rfl) (hK : X.K = K := by rfl) (hm : X.mg = mg := by rfl) (hb : X.base = base := by rfl) :
    Ex X (.Call (.Name x p) (e :: es) [] pos) (tCallD i (fun f sp => ∃ k F, k ≤ j ∧ DAt P w K mg base f k F ∧ sp = spD K F) tt) (dCallV i (fun f F => ∃ k, k ≤ j ∧ DAt P w K mg base f k F) G) := by
  subst hP hw hK hm hb
  exact d_callv i hg hr h hN hv hd hcd st pl
theorem k_truth (h : Ex X a ta A) (he : ∀ whole, isTrue a X.env whole = (do let v ← whole; standAt a.pos; holding [v] (truthy v)) := by intro _; rfl) (hK : X.K = K := by rfl) :
    Ts X a (fun σ H Q => ta σ H fun x H' => ∃ k, TruV K x H' k ∧ Q k H') (dTru A) := by subst hK; exact t_truth h he
theorem k_list_ (h : Ex X a ta A) (hK : X.K = K := by rfl) : Wk X tg a (iList K ta) (wItems A) := by subst hK; exact w_list h
theorem k_tup_ (h : Ex X a ta A) (hK : X.K = K := by rfl) : Wk X tg a (iTup K ta) (wTup A) := by subst hK; exact w_tup h
theorem kg_tup {es : List Expr} {k : Nat} {gs : TGs} {ws : List Nat} {Fs : DGs} {n : Nat} (hc : X.calm = true) (h : Tgs X es gs ws Fs)
    (hn : (assignEach es X.env).length = n := by rfl) (hst : (assignEach es X.env).findIdx? (·.1) = none := by rfl) (hK : X.K = K := by rfl) : Tg X (.Tuple es k pos) (gTup K n gs) ws (sTup n Fs) := by subst hK; exact g_tup hc h hn hst
theorem meth_go {i : Nat} {env : DEnv} {M : MH} {Q : DK} {p : Addr} {xs : List Dv} {G : DA} {g : Addr → List Dv → List Dv → MH → DK → Prop} (e : env[i]? = some (some (.ref p))) (h : M p = some (.lst xs)) (q : G env M fun ds M2 => match M2 p with
    | some (.lst ys) => g p ys ds M2 Q
    | _ => False) : dMeth1 (dV i) G g env M Q := by
  unfold dMeth1 dV
  rw [e]
  show (match M p with | some (.lst _) => _ | _ => False)
  rw [h]
  exact q
theorem meth_go0 {i : Nat} {env : DEnv} {M : MH} {Q : DK} {p : Addr} {xs : List Dv} {g : Addr → List Dv → List Dv → MH → DK → Prop} (e : env[i]? = some (some (.ref p))) (h : M p = some (.lst xs)) (q : g p xs [] M Q) : dMeth1 (dV i) dANil g env M Q := by
  refine meth_go e h ?_
  show (match M p with | some (.lst _) => _ | _ => False)
  rw [h]
  exact q
theorem pop_go {p : Addr} {xs : List Dv} {y : Dv} {M : MH} {Q : DK} (q : Q y (mup M p (.lst xs))) : gPop p (xs ++ [y]) [] M Q := by
  unfold gPop
  have e : (xs ++ [y])[(xs ++ [y]).length - 1]? = some y := by simp
  rw [e, List.dropLast_concat]
  exact q
end
end Vk
set_option linter.unusedVariables false
namespace Vk
open PySem PySem.Spec PyProof.Rows L2
theorem tuple_mulSame (l : Addr) (items : Array Value) (n : Nat) (dd : Option Addr) (sl : Array (Option Value)) (x : Int) (u : Tok) (c0 : (decide (x < -(2 ^ 63)) || decide (x ≥ 2 ^ 63)) = false) (c1 : (items.isEmpty || x == 1) = true) :
    Meets (Builtin.«tuple.__mul__» ⟨[.ref l, .int x u], []⟩) (fun _ R s => s.heap.get? l = some { cls := .type "tuple", dict := dd, data := .seq items n, slots := sl } ∧ R (.ok (.ret (Value.ref l))) s) :=
  .of_wp fun prog w A R s h => by
    obtain ⟨hp, g, d, tk, os⟩ := s
    obtain ⟨hl, h⟩ := h
    have f1 := AutoSeq1.idx_int
    wp_walk using wpAny_loadPart' hl
    repeat (first
      | (refine wpAny_ite_false (decide_eq_false (by rw [c0]; exact Bool.false_ne_true)) ?_; wp_walk using wpAny_loadPart' hl)
      | (refine wpAny_ite_true (decide_eq_true c1) ?_; wp_walk using wpAny_loadPart' hl))
    exact ⟨_, rfl, h⟩
theorem tuple_mulNone (l : Addr) (items : Array Value) (n : Nat) (dd : Option Addr) (sl : Array (Option Value)) (x : Int) (u : Tok) (c0 : (decide (x < -(2 ^ 63)) || decide (x ≥ 2 ^ 63)) = false) (c1 : (items.isEmpty || x == 1) = false) (c2 : (decide (x ≤ 0) || items.isEmpty) = true) :
    Meets (Builtin.«tuple.__mul__» ⟨[.ref l, .int x u], []⟩) (fun _ R s => s.heap.get? l = some { cls := .type "tuple", dict := dd, data := .seq items n, slots := sl } ∧
      R (.ok (.ret (Value.ref s.heap.objs.size))) { s with heap := s.heap.push { cls := Value.type "tuple", data := Data.seq #[] }, toks := s.toks }) :=
  .of_wp fun prog w A R s h => by
    obtain ⟨hp, g, d, tk, os⟩ := s
    obtain ⟨hl, h⟩ := h
    have f1 := AutoSeq1.idx_int
    wp_walk using wpAny_loadPart' hl
    repeat (first
      | (refine wpAny_ite_false (decide_eq_false (by rw [c0]; exact Bool.false_ne_true)) ?_; wp_walk using wpAny_loadPart' hl)
      | (refine wpAny_ite_false (decide_eq_false (by rw [c1]; exact Bool.false_ne_true)) ?_; wp_walk using wpAny_loadPart' hl)
      | (refine wpAny_ite_true (decide_eq_true c2) ?_; wp_walk using wpAny_loadPart' hl))
    exact ⟨_, rfl, h⟩
def rRepG (K : PySem.W.Frag) : R2 := fun x y H Q => ∃ l k xs, x = .ref l ∧ y = .int k ∧ SqT K H l xs ∧ -1000 ≤ k ∧ k ≤ 1000 ∧ xs.length ≤ 1000 ∧ ((xs = [] ∨ k = 1) → Q (.ref l) H) ∧ (xs ≠ [] → k ≤ 0 → ∀ p, H p = none → Q (.ref p) (upd H p (.tup []))) ∧
  (xs ≠ [] → 2 ≤ k → ∀ p, H p = none → Q (.ref p) (upd H p (.tup (List.replicate k.toNat xs).flatten)))
section
variable {X : Cx}
theorem op_repG : OpR X (binaryOp .Mult) (rRepG X.K) := by
  intro pins s σ H x y v u Q I rx ry h
  obtain ⟨l, k, xs, rfl, rfl, hT, h1, h2, hz, q1, q2, q3⟩ := h
  by_cases hbig : xs ≠ [] ∧ 2 ≤ k
  · exact op_repT pins s σ H _ _ v u Q I rx ry ⟨l, k, xs, rfl, rfl, hT, hbig.1, hbig.2, h2, hz, q3 hbig.1 hbig.2⟩
  · cases rx
    obtain ⟨t, rfl⟩ := ry
    obtain ⟨its, r, ⟨⟨cls, dd, data, sl⟩, ho, hc, n, hd⟩, hs⟩ := I.tuple hT
    simp only at hc hd
    subst hc hd
    have hle : its.length = xs.length := r.length.symm
    have c0 : (decide (k < -(2 ^ 63)) || decide (k ≥ 2 ^ 63)) = false := by
      rw [decide_eq_false (by omega), decide_eq_false (by omega)] <;> rfl
    by_cases hsame : xs = [] ∨ k = 1
    · have c1 : (its.toArray.isEmpty || k == 1) = true := by
        rcases hsame with e | e
        · have : its = [] := List.eq_nil_of_length_eq_zero (by rw [hle, e]; rfl)
          rw [this]
          rfl
        · rw [e]
          simp
      refine wpAny_binaryOp_repeat_ref (T := "tuple") (U := "int") (by decide) ⟨_, ho, rfl⟩ (fun s' => typeIs_int s' k t) noFill_tuple_mul F.fills_int_mul F.slot_int_rmul repeat_tuple F.slot_int_index.lookup
        (call_meets F.slot_int_rmul (typeIs_int s k t) F.entry_int_rmul (F.args_int_rmul_2 _ _) (int_rmul_tuple k t l its.toArray n dd sl)
          ⟨ho, rfl, ⟨_, ho, rfl⟩, call_meets F.slot_tuple_mul ⟨_, ho, rfl⟩ F.entry_tuple_mul (F.args_tuple_mul_2 _ _) (tuple_mulSame l its.toArray n dd sl k t c0 c1) ⟨ho, ?_⟩⟩)
      exact ⟨.ref l, H, I, rfl, q1 hsame⟩
    · have hne : xs ≠ [] := fun e => hsame (.inl e)
      have hk1 : ¬ k = 1 := fun e => hsame (.inr e)
      have hk : k ≤ 0 := by
        have : ¬ 2 ≤ k := fun e => hbig ⟨hne, e⟩
        omega
      have hn : its ≠ [] := fun e => hne (by
        rw [e] at hle
        exact List.eq_nil_of_length_eq_zero hle.symm)
      have hi : its.toArray.isEmpty = false := by
        cases its with
        | nil => exact absurd rfl hn
        | cons a b => rfl
      have c1 : (its.toArray.isEmpty || k == 1) = false := by
        rw [hi, Bool.false_or]
        exact beq_eq_false_iff_ne.mpr hk1
      have c2 : (decide (k ≤ 0) || its.toArray.isEmpty) = true := by
        rw [decide_eq_true hk]
        rfl
      refine wpAny_binaryOp_repeat_ref (T := "tuple") (U := "int") (by decide) ⟨_, ho, rfl⟩ (fun s' => typeIs_int s' k t) noFill_tuple_mul F.fills_int_mul F.slot_int_rmul repeat_tuple F.slot_int_index.lookup
        (call_meets F.slot_int_rmul (typeIs_int s k t) F.entry_int_rmul (F.args_int_rmul_2 _ _) (int_rmul_tuple k t l its.toArray n dd sl)
          ⟨ho, rfl, ⟨_, ho, rfl⟩, call_meets F.slot_tuple_mul ⟨_, ho, rfl⟩ F.entry_tuple_mul (F.args_tuple_mul_2 _ _) (tuple_mulNone l its.toArray n dd sl k t c0 c1 c2) ⟨ho, ?_⟩⟩)
      refine ⟨.ref s.heap.objs.size, _, I.laid (t' := s.toks) (o := .tup []) (fun b ob q => Heap.get?_push_of_some _ q) (Nat.le_refl _) ?_, rfl, q2 hne hk _ (I.hok.fresh (Nat.le_refl _))⟩
      exact ⟨Nat.zero_le _, [], .nil, IsTup.new _ _⟩
def gMulG : DO := fun x y M Q => match x, y with
  | .int i, .int j => CMul i j ∧ Q (.int (i * j)) M
  | .str z, .int k => (0 ≤ k ∧ k ≤ 1000 ∧ z.length ≤ 1000) ∧ Q (.str (repS z k.toNat)) M
  | .tup ds, .int k => (-1000 ≤ k ∧ k ≤ 1000 ∧ ds.length ≤ 1000) ∧ Q (.tup (List.replicate k.toNat ds).flatten) M
  | _, _ => False
abbrev rMulG (K : PySem.W.Frag) : R2 := fun x y H Q => rI CMul (fun i j => .int (i * j)) x y H Q ∨ rMulE x y H Q ∨ rRepG K x y H Q
theorem o_mulG : Op X (binaryOp .Mult) (rMulG X.K) gMulG := by
  refine ⟨opr_or op_mul (opr_or op_mulE op_repG), ?_⟩
  intro S H x y dx dy M Q R rx ry hr f q
  unfold gMulG at f
  split at f
  · cases rx
    cases ry
    exact .inl ⟨_, _, rfl, rfl, f.1, q _ M _ H f.2 Gr.refl (.int _) hr⟩
  · cases rx
    cases ry
    obtain ⟨⟨h1, h2, h3⟩, f⟩ := f
    exact .inr (.inl ⟨_, _, rfl, rfl, h1, h2, h3, q _ M _ H f Gr.refl (.str _) hr⟩)
  · obtain ⟨⟨h1, h2, h3⟩, f⟩ := f
    cases ry
    cases rx with
    | tup ha ra =>
      refine .inr (.inr ⟨_, _, _, rfl, rfl, sqT_hid ha, h1, h2, by rw [ra.len]; exact h3, fun z => ?_, fun z hk p hp => ?_, fun _ _ p hp => ?_⟩)
      · rename_i ds k _ _
        have e : (List.replicate k.toNat ds).flatten = ds := by
          rcases z with z | z
          · rw [ra.isNil.mp z]
            simp
          · rw [z]
            show (List.replicate 1 ds).flatten = ds
            simp
        rw [e] at f
        exact q _ M _ H f Gr.refl (.tup ha ra) hr
      · rename_i ds k _ _
        have e : (List.replicate k.toNat ds).flatten = [] := by
          rw [show k.toNat = 0 by omega]
          rfl
        rw [e] at f
        obtain ⟨g, hr', rd⟩ := RD.newT hr hp (vs := []) (ds := []) (.nil (K := X.K) (G := hid S M H))
        exact q _ M _ _ f g rd hr'
      · obtain ⟨g, hr', rd⟩ := RD.newT hr hp (ra.rep _)
        exact q _ M _ _ f g rd hr'
  · exact f.elim
theorem k_mulG {K : PySem.W.Frag} (hK : X.K = K := by rfl) : Op X (binaryOp .Mult) (rMulG K) gMulG := by subst hK; exact o_mulG
end
end Vk
set_option linter.unusedVariables false
namespace Vk
open PySem PySem.Spec PyProof.Rows L2
/-! # The data layer: comprehensions whose list is changed later, sums of lists that change -/
@[irreducible] def dLcM (W : DI) (g : DG) (T : DT) (A : DE) (vs : List Nat) : DE := fun env M Q => W env M fun items inv M1 => items.length ≤ sizeLine ∧ ∃ I : Nat → List Dv → MH → Prop, I 0 [] M1 ∧ (∀ i acc M, I i acc M → inv M) ∧
  (∀ i d acc M, items[i]? = some d → I i acc M → g d (wipeD env vs) M fun env1 M2 => T env1 M2 fun b M3 => if b = true then A env1 M3 fun y M4 => I (i + 1) (acc ++ [y]) M4 else I (i + 1) acc M3) ∧ ∀ acc M, I items.length acc M → ∀ p, M p = none → Q (.ref p) (mup M p (.lst acc))
theorem RE.lcM {K : PySem.W.Frag} {wi : TI} {g : TG} {tT : TT} {te : TE} {vs ws : List Nat} {W : DI} {Fg : DG} {T : DT} {A : DE} (hi : RI K wi W) (hg : RG K g ws Fg) (ht : RT K tT T) (he : RE K te A) (hw : ∀ i, i ∈ ws → i ∈ vs) :
    RE K (tLc wi g tT te vs) (dLcM W Fg T A vs) := by
  intro S σ H env M Q R rn hr f q
  unfold dLcM at f
  refine hi S σ H env M _ _ rn hr f fun items inv M1 J H1 f1 g1 hr1 wk => ?_
  obtain ⟨hsz, I, h0, hin, step, fin⟩ := f1
  intro D hD
  obtain ⟨sD, mD⟩ := hr1.fresh hD
  let S2 : Addr → Bool := fun z => S z || z == D
  have s2D : S2 D = true := by simp [S2]
  have s2S : ∀ z, S z = true → S2 z = true := fun z hz => by simp [S2, hz]
  have hid0 : ∀ o, hid S2 M1 (upd H1 D o) = hid S M1 H1 := fun o => by
    funext z
    by_cases c : z = D
    · subst c
      unfold hid
      rw [s2D, sD, mD, hD]
      simp
    · have e : S2 z = S z := by simp [S2, c]
      unfold hid
      rw [e, upd_ne c]
  have hr0 : HR K S2 M1 (upd H1 D (.lst [])) := by
    refine ⟨fun z o e => ?_, fun z hz => ?_⟩
    · obtain ⟨u, y1, y2⟩ := hr1.obj z o e
      have n : z ≠ D := fun w => by subst w; rw [mD] at e; cases e
      exact ⟨u, by rw [upd_ne n]; exact y1, by rw [hid0]; exact y2⟩
    · by_cases c : z = D
      · subst c
        exact ⟨mD, by rw [upd_same]; exact fun w => by cases w⟩
      · have e : S z = true := by simpa [S2, c] using hz
        obtain ⟨y1, y2⟩ := hr1.apart z e
        exact ⟨y1, by rw [upd_ne c]; exact y2⟩
  refine ⟨fun i m H' => ∃ acc M' av, I i acc M' ∧ H' D = some (.lst av) ∧ RDs K (hid S2 M' H') av acc ∧ HR K S2 M' H' ∧ Same (hid S M1 H1) (hid S2 M' H') ∧ (∀ z, S z = true → H' z = H1 z) ∧ acc.length ≤ i ∧ m = items.length - i ∧ i ≤ items.length,
    ⟨_, [], M1, [], h0, upd_same, .nil, hr0, by rw [hid0]; exact Same.refl _, fun z hz => upd_ne (fun w => by subst w; rw [sD] at hz; cases hz), Nat.zero_le _, rfl, Nat.zero_le _⟩, ?_⟩
  rintro i m H2 ⟨acc, M2, av, h2, at2, ra2, hr2, same2, hold2, hl2, rfl, hi2⟩
  rcases Nat.lt_or_eq_of_le hi2 with hlt | heq
  · refine .inr ?_
    have hd : items[i]? = some items[i] := List.getElem?_eq_getElem hlt
    obtain ⟨w1, w2⟩ := wk.go i _ hd S2 M2 H2 same2 hr2 (hin _ _ _ h2)
    refine ⟨w1, fun H' => ∃ acc' M' av', I (i + 1) acc' M' ∧ H' D = some (.lst av') ∧ RDs K (hid S2 M' H') av' acc' ∧ HR K S2 M' H' ∧ Same (hid S M1 H1) (hid S2 M' H') ∧ (∀ z, S z = true → H' z = H1 z) ∧ acc'.length ≤ i + 1,
      fun H' ⟨a', M', av', y1, y2, y3, y4, y5, y6, y7⟩ => ⟨items.length - (i + 1), by omega, a', M', av', y1, y2, y3, y4, y5, y6, y7, rfl, hlt⟩, fun x H3 hy => ?_⟩
    obtain ⟨g3, hr3, rd⟩ := w2 x H3 hy
    have rnw : RN K (hid S2 M2 H3) (L2.wipe σ vs) (wipeD env vs) := RN.same g3.same (RN.same same2 (RN.wipe (rn.same g1.same) vs))
    refine hg S2 (L2.wipe σ vs) H3 x _ (wipeD env vs) M2 _ _ rd rnw hr3 (step i _ acc M2 hd h2) fun env4 M4 σ4 H4 f4 g4 rn4 hr4 k4 => ?_
    refine ⟨wipe_back hw (by rw [k4.1, L2.wipe_length]) k4.2, ?_⟩
    refine ht S2 σ4 H4 env4 M4 _ _ rn4 hr4 f4 fun b M5 H5 f5 g5 hr5 => ?_
    split at f5
    · rename_i eb
      rw [if_pos eb]
      refine he S2 σ4 H5 env4 M5 _ _ (rn4.same g5.same) hr5 f5 fun y M6 v H6 f6 g6 rd6 hr6 => ?_
      have gg := ((g3.trans g4).trans g5).trans g6
      have at6 : H6 D = some (.lst av) := by rw [gg.hold D s2D]; exact at2
      have ra6 := RDs.same gg.same _ _ ra2
      have hidE : ∀ o, hid S2 M6 (upd H6 D o) = hid S2 M6 H6 := fun o => by
        funext z
        by_cases c : z = D
        · subst c
          unfold hid
          rw [s2D]
          simp
        · unfold hid
          rw [upd_ne c]
      refine ⟨av, at6, by rw [ra2.len]; omega, acc ++ [y], M6, av ++ [v], f6, upd_same, by rw [hidE]; exact ra6.app (.cons rd6 .nil), ⟨fun z o e => ?_, fun z hz => ?_⟩, by rw [hidE]; exact same2.trans gg.same, fun z hz => ?_, by rw [List.length_append]; simp; omega⟩
      · obtain ⟨u, y1, y2⟩ := hr6.obj z o e
        have n : z ≠ D := fun w => by subst w; rw [(hr6.apart _ s2D).1] at e; cases e
        exact ⟨u, by rw [upd_ne n]; exact y1, by rw [hidE]; exact y2⟩
      · obtain ⟨y1, y2⟩ := hr6.apart z hz
        refine ⟨y1, ?_⟩
        by_cases c : z = D
        · subst c
          rw [upd_same]
          exact fun w => by cases w
        · rw [upd_ne c]
          exact y2
      · have n : z ≠ D := fun w => by subst w; rw [sD] at hz; cases hz
        rw [upd_ne n, gg.hold z (s2S z hz)]
        exact hold2 z hz
    · rename_i eb
      rw [if_neg eb]
      have gg := (g3.trans g4).trans g5
      exact ⟨acc, M5, av, f5, by rw [gg.hold D s2D]; exact at2, RDs.same gg.same _ _ ra2, hr5, same2.trans gg.same, fun z hz => by rw [gg.hold z (s2S z hz)]; exact hold2 z hz, by omega⟩
  · subst heq
    refine .inl ⟨wk.stop S2 M2 H2 same2 hr2 (hin _ _ _ h2), ?_⟩
    have m2D : M2 D = none := (hr2.apart D s2D).1
    have eqh : hid S (mup M2 D (.lst acc)) H2 = hid S2 M2 H2 := by
      funext z
      by_cases c : z = D
      · subst c
        unfold hid
        rw [s2D, mup_same]
        simp
      · have e : S2 z = S z := by simp [S2, c]
        unfold hid
        rw [e, mup_ne c]
    refine q _ (mup M2 D (.lst acc)) _ H2 (fin _ _ h2 D m2D) (g1.trans ⟨by rw [eqh]; exact same2, hold2⟩) (.ref D) ⟨fun z o e => ?_, fun z hz => ?_⟩
    · rw [eqh]
      by_cases c : z = D
      · subst c
        rw [mup_same] at e
        cases e
        exact ⟨_, at2, .lst ra2⟩
      · rw [mup_ne c] at e
        exact hr2.obj z o e
    · have n : z ≠ D := fun w => by subst w; rw [sD] at hz; cases hz
      obtain ⟨y1, y2⟩ := hr2.apart z (s2S z hz)
      exact ⟨by rw [mup_ne n]; exact y1, y2⟩
section
variable {X : Cx} {K : PySem.W.Frag} {a b c e o i_ tg : Expr} {ta tb tc te to_ ti_ : TE} {A B C D O I2 : DE} {pos p : Pos}
theorem s_setLcM {i : Nat} {y : Str} {py spos : Pos} {elt it : Expr} {ifs : List Expr} {scope : Scope} {own : List (Str × Nat)} {wi : TI} {g : TG} {tT : TT} {ws : List Nat} {W : DI} {Fg : DG} {T : DT} (hc : X.calm = true) (hN : X.N.Nodup) (hy : X.N[i]? = some y) (hyl : X.env.scope.names.lookup y = some .local)
    (hsw : swapsWith (.ListComp elt [⟨tg, it, ifs, 0⟩] scope pos) (some (.Name y py)) spos.line X.env = pure true) (hi : Wk X tg it wi W) (ok : BlkOk X.N X.env.scope scope own)
    (hg : ∀ (s : Shared) (H : Hp) (C : Addr) (cl : List (Str × Addr)) (fp : List Addr), Tg (X.blk s H scope (compEnvC scope cl C X.env) fp) tg g ws Fg) (ht : ∀ (s : Shared) (H : Hp) (C : Addr) (cl : List (Str × Addr)) (fp : List Addr), PTs (X.blk s H scope (compEnvC scope cl C X.env) fp) ifs tT) (htr : RT X.K tT T)
    (he : ∀ (s : Shared) (H : Hp) (C : Addr) (cl : List (Str × Addr)) (fp : List Addr), Ex (X.blk s H scope (compEnvC scope cl C X.env) fp) elt te A) (hw : ∀ i, i ∈ ws → i ∈ own.map (·.2) := by decide) (hs : ∀ x, foldedSetIterable it X.env x = pure x := by intro _; rfl) :
    Sm X (.Assign [.Name y py] (.ListComp elt [⟨tg, it, ifs, 0⟩] scope pos) spos) (tAsg (tLc wi g tT te (own.map (·.2))) (gName i)) (dSet i (dLcM W Fg T A (own.map (·.2)))) := by
  refine ⟨ps_setLc hc hN hy hyl hsw hi.p ok (fun s H C cl fp => (hg s H C cl fp).p) ht (fun s H C cl fp => (he s H C cl fp).p) hs, ?_⟩
  have r := RE.lcM hi.r (hg X.s_0 X.H_0 0 [] []).r htr (he X.s_0 X.H_0 0 [] []).r hw
  intro S σ H env M D E rn hr f c
  refine r S σ H env M _ _ rn hr f fun d M' v H' e g rd hr' => ?_
  exact c.nx _ M' _ H' e g ((rn.same g.same).set rd i) hr'
/-- a list, data or one that changes -/
def lsD (M : MH) : Dv → Option (List Dv)
  | .lst ds => some ds
  | .ref p => match M p with
    | some (.lst ds) => some ds
    | _ => none
  | _ => none
theorem ls_rd {K : PySem.W.Frag} {S : Addr → Bool} {M : MH} {H : Hp} {v : V} {d : Dv} {ds : List Dv} (hr : HR K S M H) (h : RD K (hid S M H) v d) (e : lsD M d = some ds) : ∃ a vs, v = .ref a ∧ H a = some (.lst vs) ∧ RDs K (hid S M H) vs ds := by
  cases h with
  | lst ha ra => cases e; exact ⟨_, _, rfl, (hid_some ha).1, ra⟩
  | ref p =>
    unfold lsD at e
    simp only at e
    split at e
    · rename_i e1
      cases e
      obtain ⟨u, z1, z2⟩ := hr.obj _ _ e1
      cases z2 with
      | lst ra => exact ⟨_, _, rfl, z1, ra⟩
    · cases e
  | _ => cases e
/-- + of two lists -/
@[irreducible] def gAddL : DO := fun x y M Q => match lsD M x, lsD M y with
  | some i, some j => i.length + j.length ≤ sizeLine ∧ Q (.lst (i ++ j)) M
  | _, _ => False
theorem o_addL : Op X (binaryOp .Add) rCat gAddL := by
  refine ⟨op_cat, ?_⟩
  intro S H x y dx dy M Q R rx ry hr f q
  unfold gAddL at f
  split at f
  · rename_i e1 e2
    obtain ⟨a, vs, rfl, ha, ra⟩ := ls_rd hr rx e1
    obtain ⟨b, ws, rfl, hb, rb⟩ := ls_rd hr ry e2
    refine ⟨_, _, _, _, rfl, rfl, ha, hb, by rw [ra.len, rb.len]; exact f.1, fun p hp => ?_⟩
    obtain ⟨g, hr', rd⟩ := RD.newL hr hp (ra.app rb)
    exact q _ M _ _ f.2 g rd hr'
  · exact f.elim
/-- xs[i] = v -/
theorem s_put {st : Stmt} (h1 : Ex X e te A) (h2 : Ex X o to_ O) (h3 : Ex X i_ ti_ I2) (hst : PE X e te → PE X o to_ → PE X i_ ti_ → PS X st (tAsg te (gSub to_ ti_ rSetL))) : Sm X st (tAsg te (L2.gSub to_ ti_ rSetL)) (dPut A O I2) := s_putL (hst h1.p h2.p h3.p) h1.r h2.r h3.r
end
end Vk
set_option linter.unusedVariables false
set_option linter.unusedSimpArgs false
/-! DLO: fields, methods, new instances; dicts with keys that are ints or texts -/
namespace Vk
open PySem PySem.Spec PyProof.Rows L2
def putFD (f : Str) (v : Dv) : List (Str × Dv) → List (Str × Dv)
  | [] => [(f, v)]
  | (g, x) :: r => if g = f then (g, v) :: r else (g, x) :: putFD f v r
def valD (kds : List (L2.Key × Dv)) (k : L2.Key) : Option Dv := (kds.find? fun kv => decide (kv.1 = k)).map (·.2)
def putD (kds : List (L2.Key × Dv)) (k : L2.Key) (v : Dv) : List (L2.Key × Dv) :=
  if (kds.any fun kv => decide (kv.1 = k)) = true then kds.map (fun kv => if kv.1 = k then (kv.1, v) else kv) else kds ++ [(k, v)]
def keyOf : Dv → Option L2.Key
  | .int i => some (.inl i)
  | .str s => some (.inr s)
  | _ => none
theorem key_rd {K : PySem.W.Frag} {G : Hp} {y : V} {d : Dv} {k : L2.Key} (h : RD K G y d) (e : keyOf d = some k) : y = L2.kV k := by
  cases h with
  | int i => cases e; rfl
  | str s => cases e; rfl
  | _ => cases e
theorem RKV.lookup {K : PySem.W.Frag} {G : Hp} : ∀ {fs : List (Str × V)} {gs : List (Str × Dv)} {f : Str} {d : Dv}, RKV K G fs gs → gs.lookup f = some d → ∃ v, fs.lookup f = some v ∧ RD K G v d
  | _, _, _, _, .nil, h => by cases h
  | (g, v) :: _, (_, x) :: _, f, d, .cons a b, h => by
    rw [List.lookup_cons] at h ⊢
    cases e : f == g with
    | true =>
      rw [e] at h
      cases h
      exact ⟨v, rfl, a⟩
    | false =>
      rw [e] at h
      exact RKV.lookup b h
theorem RKV.lookN {K : PySem.W.Frag} {G : Hp} : ∀ {fs : List (Str × V)} {gs : List (Str × Dv)} {f : Str}, RKV K G fs gs → gs.lookup f = none → fs.lookup f = none
  | _, _, _, .nil, _ => rfl
  | (g, v) :: _, (_, x) :: _, f, .cons a b, h => by
    rw [List.lookup_cons] at h ⊢
    cases e : f == g with
    | true => rw [e] at h; cases h
    | false =>
      rw [e] at h
      exact RKV.lookN b h
theorem RKV.len {κ : Type} {K : PySem.W.Frag} {G : Hp} : ∀ {fs : List (κ × V)} {gs : List (κ × Dv)}, RKV K G fs gs → fs.length = gs.length
  | _, _, .nil => rfl
  | _, _, .cons _ b => congrArg Nat.succ (RKV.len b)
theorem RKV.putF {K : PySem.W.Frag} {G : Hp} {f : Str} {v : V} {d : Dv} (h : RD K G v d) : ∀ {fs : List (Str × V)} {gs : List (Str × Dv)}, RKV K G fs gs → RKV K G (L2.putF f v fs) (putFD f d gs)
  | _, _, .nil => .cons h .nil
  | (g, x) :: r, (_, y) :: s, .cons a b => by
    unfold L2.putF putFD
    by_cases e : g = f
    · rw [if_pos e, if_pos e]
      exact .cons h b
    · rw [if_neg e, if_neg e]
      exact .cons a (RKV.putF h b)
theorem RKV.app {κ : Type} {K : PySem.W.Frag} {G : Hp} {ks : List (κ × V)} {ms : List (κ × Dv)} (h : RKV K G ks ms) : ∀ {fs : List (κ × V)} {gs : List (κ × Dv)}, RKV K G fs gs → RKV K G (fs ++ ks) (gs ++ ms)
  | _, _, .nil => h
  | _, _, .cons a b => .cons a (RKV.app h b)
theorem RKV.val {K : PySem.W.Frag} {G : Hp} : ∀ {kvs : List (L2.Key × V)} {kds : List (L2.Key × Dv)} (k : L2.Key), RKV K G kvs kds → (valD kds k = none ∧ L2.valV kvs k = none) ∨ ∃ v d, valD kds k = some d ∧ L2.valV kvs k = some v ∧ RD K G v d
  | _, _, _, .nil => .inl ⟨rfl, rfl⟩
  | (g, x) :: r, (_, y) :: s, k, .cons a b => by
    unfold valD L2.valV
    rw [List.find?_cons, List.find?_cons]
    by_cases e : g = k
    · simp only [e, decide_true]
      exact .inr ⟨x, y, rfl, rfl, a⟩
    · simp only [e, decide_false]
      exact RKV.val k b
theorem RKV.any {K : PySem.W.Frag} {G : Hp} : ∀ {kvs : List (L2.Key × V)} {kds : List (L2.Key × Dv)} (k : L2.Key), RKV K G kvs kds → (kvs.any fun kv => decide (kv.1 = k)) = (kds.any fun kv => decide (kv.1 = k))
  | _, _, _, .nil => rfl
  | _, _, k, .cons a b => by rw [List.any_cons, List.any_cons, RKV.any k b]
theorem RKV.set {K : PySem.W.Frag} {G : Hp} {v : V} {d : Dv} (h : RD K G v d) (k : L2.Key) : ∀ {kvs : List (L2.Key × V)} {kds : List (L2.Key × Dv)}, RKV K G kvs kds → RKV K G (kvs.map fun kv => if kv.1 = k then (kv.1, v) else kv) (kds.map fun kv => if kv.1 = k then (kv.1, d) else kv)
  | _, _, .nil => .nil
  | (g, x) :: r, (_, y) :: s, .cons a b => by
    rw [List.map_cons, List.map_cons]
    by_cases e : g = k
    · rw [if_pos e, if_pos e]
      exact .cons h (RKV.set h k b)
    · rw [if_neg e, if_neg e]
      exact .cons a (RKV.set h k b)
theorem RKV.putK {K : PySem.W.Frag} {G : Hp} {v : V} {d : Dv} (h : RD K G v d) (k : L2.Key) {kvs : List (L2.Key × V)} {kds : List (L2.Key × Dv)} (r : RKV K G kvs kds) : RKV K G (L2.putK kvs k v) (putD kds k d) := by
  unfold L2.putK putD
  rw [r.any k]
  split
  · exact RKV.set h k r
  · exact RKV.app (.cons h .nil) r
section
variable {X : Cx} {K : PySem.W.Frag} {o e a : Expr} {es : List Expr} {to_ ta ti : TE} {tt : TA} {O A I : DE} {G : DA} {f x m : Str} {p pos apos : Pos} {C fI fm : Addr} {k j n : Nat} {F : DF} {st : Stmt}
/-! ### fields -/
structure FldOk (K : PySem.W.Frag) (C : Addr) (f : Str) : Prop where
  c : Cls K C
  n : NoAttr K C f
/-- o.f -/
def dFld (K : PySem.W.Frag) (f : Str) (O : DE) : DE := fun env M Q => O env M fun x M1 => match x with
  | .ref p => match M1 p with
    | some (.ins C dx fs) => match fs.lookup f with
      | some d => FldOk K C f ∧ Q d M1
      | none => False
    | _ => False
  | _ => False
theorem d_fld (h : Ex X o to_ O) (hb : attributeBase o f X.env (eval o X.env) = eval o X.env := by rfl) (hK : X.K = K := by rfl) : Ex X (.Attribute o f pos) (tFld K to_ f) (dFld K f O) := by
  subst hK
  refine ⟨pe_fld h.p hb, ?_⟩
  intro S σ H env M Q R rn hr f0 q
  refine h.r S σ H env M _ _ rn hr f0 fun d M1 v H1 f1 g1 r1 hr1 => ?_
  split at f1
  · split at f1
    · rename_i e1
      split at f1
      · rename_i e2
        cases r1
        obtain ⟨u, z1, z2⟩ := hr1.obj _ _ e1
        cases z2 with
        | ins r =>
          obtain ⟨v, ev, rd⟩ := r.lookup e2
          exact ⟨_, _, _, _, v, rfl, z1, f1.1.c, f1.1.n, ev, q _ M1 _ H1 f1.2 g1 rd hr1⟩
      · exact f1.elim
    · exact f1.elim
  · exact f1.elim
/-- o.f = e -/
def dFldSet (K : PySem.W.Frag) (f : Str) (O A : DE) : DS := fun E env M => A env M fun v M1 => O env M1 fun o M2 => match o with
  | .ref p => match M2 p with
    | some (.ins C dx fs) => (FldOk K C f ∧ fs.length < 1000) ∧ E.nx env (mup M2 p (.ins C dx (putFD f v fs)))
    | _ => False
  | _ => False
theorem s_fld (h1 : Ex X o to_ O) (h2 : Ex X e ta A) (hs : swapsWith e (some (.Attribute o f apos)) pos.line X.env = pure false := by rfl) (hK : X.K = K := by rfl) :
    Sm X (.Assign [.Attribute o f apos] e pos) (sFld K to_ ta f) (dFldSet K f O A) := by
  subst hK
  refine ⟨ps_fld h1.p h2.p hs, ?_⟩
  intro S σ H env M D E rn hr f0 c
  refine h2.r S σ H env M _ _ rn hr f0 fun v M1 x H1 f1 g1 r1 hr1 => ?_
  refine h1.r S σ H1 env M1 _ _ (rn.same g1.same) hr1 f1 fun o M2 y H2 f2 g2 r2 hr2 => ?_
  split at f2
  · split at f2
    · rename_i e1
      cases r2
      obtain ⟨u, z1, z2⟩ := hr2.obj _ _ e1
      cases z2 with
      | ins r =>
        have rx := RD.same g2.same _ _ r1
        obtain ⟨g, hr'⟩ := hr2.put (o := .ins _ _ _) e1 (.ins (r.putF (f := f) rx))
        have gg := (g1.trans g2).trans g
        exact ⟨_, _, _, _, rfl, z1, f2.1.1.c, f2.1.1.n, by rw [r.len]; exact f2.1.2, c.nx env _ σ _ f2.2 gg (rn.same gg.same) hr'⟩
    · exact f2.elim
  · exact f2.elim
/-! ### dicts -/
/-- what stands at a key of a dict -/
def dictAt (M : MH) (o i : Dv) : Option (Addr × List (L2.Key × Dv) × L2.Key) := match o with
  | .ref p => match M p with
    | some (.dK kds) => match keyOf i with
      | some k => some (p, kds, k)
      | none => none
    | _ => none
  | _ => none
theorem dict_rd {S : Addr → Bool} {M : MH} {H : Hp} {y i : V} {dy di : Dv} {p : Addr} {kds : List (L2.Key × Dv)} {k : L2.Key} (hr : HR K S M H) (h1 : RD K (hid S M H) y dy) (h2 : RD K (hid S M H) i di) (e : dictAt M dy di = some (p, kds, k)) :
    ∃ kvs, y = .ref p ∧ i = L2.kV k ∧ H p = some (.dK kvs) ∧ M p = some (.dK kds) ∧ RKV K (hid S M H) kvs kds := by
  unfold dictAt at e
  split at e
  · split at e
    · rename_i e1
      split at e
      · rename_i e2
        cases e
        cases h1
        obtain ⟨u, z1, z2⟩ := hr.obj _ _ e1
        cases z2 with
        | dK r => exact ⟨_, rfl, key_rd h2 e2, z1, e1, r⟩
      · cases e
    · cases e
  · cases e
/-- o[i] of a dict -/
def dDGet (O I : DE) : DE := fun env M Q => O env M fun o M1 => I env M1 fun i M2 => match dictAt M2 o i with
  | some (_, kds, k) => match valD kds k with
    | some d => Q d M2
    | none => False
  | none => False
theorem d_dget (hu : X.A.units + 64 < cLine) (h1 : Ex X o to_ O) (h2 : Ex X e ti I) (hs : NoSl e) : Ex X (.Subscript o e pos) (tDGet to_ ti) (dDGet O I) := by
  refine ⟨pe_dget (by omega) h1.p h2.p hs, ?_⟩
  intro S σ H env M Q R rn hr f0 q
  refine h1.r S σ H env M _ _ rn hr f0 fun dy M1 y H1 f1 g1 r1 hr1 => ?_
  refine h2.r S σ H1 env M1 _ _ (rn.same g1.same) hr1 f1 fun di M2 i H2 f2 g2 r2 hr2 => ?_
  split at f2
  · rename_i e1
    obtain ⟨kvs, rfl, rfl, z, _, r⟩ := dict_rd hr2 (RD.same g2.same _ _ r1) r2 e1
    split at f2
    · rename_i e2
      rcases r.val _ with ⟨n1, _⟩ | ⟨v, d, n1, n2, rd⟩
      · rw [n1] at e2; cases e2
      · rw [n1] at e2
        cases e2
        exact ⟨_, v, rfl, by rw [← n2]; exact DGet.k z, q _ M2 _ H2 f2 (g1.trans g2) rd hr2⟩
    · exact f2.elim
  · exact f2.elim
/-- i in o, of a dict -/
def dDIn (k : Bool → Bool) (I O : DE) : DE := fun env M Q => I env M fun i M1 => O env M1 fun o M2 => match dictAt M2 o i with
  | some (_, kds, key) => Q (.bl (k (valD kds key).isSome)) M2
  | none => False
theorem dict_in {S : Addr → Bool} {M2 : MH} {H2 : Hp} {y i : V} {dy di : Dv} {p : Addr} {kds : List (L2.Key × Dv)} {k : L2.Key} (hr2 : HR K S M2 H2) (h1 : RD K (hid S M2 H2) y dy) (h2 : RD K (hid S M2 H2) i di) (e1 : dictAt M2 dy di = some (p, kds, k)) :
    ∃ r, y = .ref p ∧ DGet H2 p i r ∧ r.isSome = (valD kds k).isSome := by
  obtain ⟨kvs, rfl, rfl, z, _, r⟩ := dict_rd hr2 h1 h2 e1
  refine ⟨_, rfl, DGet.k z, ?_⟩
  rcases r.val k with ⟨n1, n2⟩ | ⟨v, d, n1, n2, rd⟩ <;> rw [n1, n2] <;> rfl
/-- o[i] = v of a dict -/
def dDPut (O I A : DE) : DS := fun E env M => A env M fun v M1 => O env M1 fun o M2 => I env M2 fun i M3 => match dictAt M3 o i with
  | some (p, kds, k) => kds.length < sizeLine ∧ E.nx env (mup M3 p (.dK (putD kds k v)))
  | none => False
theorem s_dput (hu : X.A.units + 64 < cLine) (h1 : Ex X o to_ O) (h2 : Ex X e ti I) (h3 : Ex X a ta A) (hs : swapsWith a (some (.Subscript o e apos)) pos.line X.env = pure false := by rfl) :
    Sm X (.Assign [.Subscript o e apos] a pos) (sDPut to_ ti ta) (dDPut O I A) := by
  refine ⟨ps_dput (by omega) h1.p h2.p h3.p hs, ?_⟩
  intro S σ H env M D E rn hr f0 c
  refine h3.r S σ H env M _ _ rn hr f0 fun v M1 x H1 f1 g1 r1 hr1 => ?_
  refine h1.r S σ H1 env M1 _ _ (rn.same g1.same) hr1 f1 fun dy M2 y H2 f2 g2 r2 hr2 => ?_
  refine h2.r S σ H2 env M2 _ _ (rn.same (g1.trans g2).same) hr2 f2 fun di M3 i H3 f3 g3 r3 hr3 => ?_
  split at f3
  · rename_i e1
    obtain ⟨kvs, rfl, rfl, z, zm, r⟩ := dict_rd hr3 (RD.same g3.same _ _ r2) r3 e1
    have rx := RD.same (g2.trans g3).same _ _ r1
    obtain ⟨g, hr'⟩ := hr3.put (o := .dK _) zm (.dK (r.putK rx _))
    have gg := ((g1.trans g2).trans g3).trans g
    exact ⟨_, _, rfl, DPut.k z (by rw [r.len]; exact f3.1), c.nx env _ σ _ f3.2 gg (rn.same gg.same) hr'⟩
  · exact f3.elim
end
end Vk
set_option linter.unusedVariables false
set_option linter.unusedSimpArgs false
/-! DLP: `in` of a dict, get, len, methods, new instances -/
namespace Vk
open PySem PySem.Spec PyProof.Rows L2
section
variable {X : Cx} {K : PySem.W.Frag} {o e a : Expr} {es : List Expr} {to_ ta ti tz : TE} {tt : TA} {O A I Z : DE} {G : DA} {f x m : Str} {p pos apos cpos : Pos} {C : Addr} {k j n : Nat} {F : DF}
/-! ### in -/
def rInD (neg : Bool) : R2 := fun y x H Q => ∃ a r, x = .ref a ∧ DGet H a y r ∧ Q (.bl (if neg then !r.isSome else r.isSome)) H
theorem op_inD (hu : X.A.units + 64 < cLine) : OpR X (compareOp .In) (rInD false) := by
  intro pins s σ H y x v u Q I ry rx h
  obtain ⟨a, r, rfl, g, q⟩ := h
  cases (show u = Value.ref a from rx)
  exact d_in (by omega) I g ry fun s3 I3 => ⟨.bl r.isSome, H, I3, rfl, q⟩
theorem op_notInD (hu : X.A.units + 64 < cLine) : OpR X (compareOp .NotIn) (rInD true) := by
  intro pins s σ H y x v u Q I ry rx h
  obtain ⟨a, r, rfl, g, q⟩ := h
  cases (show u = Value.ref a from rx)
  exact d_notIn (by omega) I g ry fun s3 I3 => ⟨.bl (!r.isSome), H, I3, rfl, q⟩
def gInD (neg : Bool) : DO := fun i o M Q => match dictAt M o i with
  | some (_, kds, key) => Q (.bl (if neg then !(valD kds key).isSome else (valD kds key).isSome)) M
  | none => False
theorem RO.inD {neg : Bool} : RO K (rInD neg) (gInD neg) := by
  intro S H i y di dy M Q R ri ry hr f q
  unfold gInD at f
  split at f
  · rename_i e1
    obtain ⟨r, rfl, g, e⟩ := dict_in hr ry ri e1
    exact ⟨_, r, rfl, g, q _ M _ H (by rw [e]; exact f) Gr.refl (.bl _) hr⟩
  · exact f.elim
theorem o_inD (hu : X.A.units + 64 < cLine) : Op X (compareOp .In) (rInD false) (gInD false) := ⟨op_inD hu, RO.inD⟩
theorem o_notInD (hu : X.A.units + 64 < cLine) : Op X (compareOp .NotIn) (rInD true) (gInD true) := ⟨op_notInD hu, RO.inD⟩
/-! ### get -/
def isDct (M : MH) : Dv → Bool
  | .ref p => match M p with
    | some (.dK _) => true
    | _ => false
  | _ => false
theorem isD_rd {S : Addr → Bool} {M : MH} {H : Hp} {y : V} {d : Dv} (hr : HR K S M H) (h : RD K (hid S M H) y d) (e : isDct M d = true) : ∃ a, y = .ref a ∧ IsD H a := by
  unfold isDct at e
  split at e
  · split at e
    · rename_i e1
      cases h
      obtain ⟨u, z1, z2⟩ := hr.obj _ _ e1
      cases z2 with
      | dK r => exact ⟨_, rfl, .inl ⟨_, .inl z1⟩⟩
    · cases e
  · cases e
theorem dict_get {S : Addr → Bool} {M : MH} {H : Hp} {y i : V} {dy di : Dv} {p : Addr} {kds : List (L2.Key × Dv)} {k : L2.Key} (hr : HR K S M H) (h1 : RD K (hid S M H) y dy) (h2 : RD K (hid S M H) i di) (e : dictAt M dy di = some (p, kds, k)) :
    y = .ref p ∧ ((valD kds k = none ∧ DGet H p i none) ∨ ∃ v d, valD kds k = some d ∧ DGet H p i (some v) ∧ RD K (hid S M H) v d) := by
  obtain ⟨kvs, rfl, rfl, z, _, r⟩ := dict_rd hr h1 h2 e
  refine ⟨rfl, ?_⟩
  rcases r.val k with ⟨n1, n2⟩ | ⟨v, d, n1, n2, rd⟩
  · exact .inl ⟨n1, by rw [← n2]; exact DGet.k z⟩
  · exact .inr ⟨v, d, n1, by rw [← n2]; exact DGet.k z, rd⟩
/-- o.get(i) -/
def dGet1 (O I : DE) : DE := fun env M Q => O env M fun o M1 => isDct M1 o = true ∧ I env M1 fun i M2 => match dictAt M2 o i with
  | some (_, kds, k) => Q ((valD kds k).getD .non) M2
  | none => False
theorem d_get1 (hu : X.A.units + 64 < cLine) (h1 : Ex X o to_ O) (h2 : Ex X e ti I) (mm : M1 X o "get" apos e cpos := by exact ⟨rfl, rfl, rfl, rfl⟩) : Ex X (.Call (.Attribute o "get" apos) [e] [] cpos) (tDGet1 to_ ti) (dGet1 O I) := by
  refine ⟨pe_dget1 (by omega) h1.p h2.p mm, ?_⟩
  intro S σ H env M Q R rn hr f0 q
  refine h1.r S σ H env M _ _ rn hr f0 fun dy M1 y H1 f1 g1 r1 hr1 => ?_
  obtain ⟨a, rfl, isd⟩ := isD_rd hr1 r1 f1.1
  refine ⟨a, rfl, isd, h2.r S σ H1 env M1 _ _ (rn.same g1.same) hr1 f1.2 fun di M2 i H2 f2 g2 r2 hr2 => ?_⟩
  split at f2
  · rename_i e1
    obtain ⟨ea, h⟩ := dict_get hr2 (RD.same g2.same _ _ r1) r2 e1
    cases ea
    rcases h with ⟨n1, n2⟩ | ⟨v, d, n1, n2, rd⟩
    · rw [n1] at f2
      exact ⟨none, n2, q _ M2 _ H2 f2 (g1.trans g2) .non hr2⟩
    · rw [n1] at f2
      exact ⟨some v, n2, q _ M2 _ H2 f2 (g1.trans g2) rd hr2⟩
  · exact f2.elim
/-- o.get(i, z) -/
def dGet2 (O I Z : DE) : DE := fun env M Q => O env M fun o M1 => isDct M1 o = true ∧ I env M1 fun i M2 => Z env M2 fun z M3 => match dictAt M3 o i with
  | some (_, kds, k) => Q ((valD kds k).getD z) M3
  | none => False
theorem d_get2 (hu : X.A.units + 64 < cLine) (h1 : Ex X o to_ O) (h2 : Ex X e ti I) (h3 : Ex X a tz Z) (mm : M2 X o "get" apos e a cpos := by exact ⟨rfl, rfl, rfl, rfl⟩) : Ex X (.Call (.Attribute o "get" apos) [e, a] [] cpos) (tDGet2 to_ ti tz) (dGet2 O I Z) := by
  refine ⟨pe_dget2 (by omega) h1.p h2.p h3.p mm, ?_⟩
  intro S σ H env M Q R rn hr f0 q
  refine h1.r S σ H env M _ _ rn hr f0 fun dy M1 y H1 f1 g1 r1 hr1 => ?_
  obtain ⟨a, rfl, isd⟩ := isD_rd hr1 r1 f1.1
  refine ⟨a, rfl, isd, h2.r S σ H1 env M1 _ _ (rn.same g1.same) hr1 f1.2 fun di M2 i H2 f2 g2 r2 hr2 => ?_⟩
  refine h3.r S σ H2 env M2 _ _ (rn.same (g1.trans g2).same) hr2 f2 fun dz M3 z H3 f3 g3 r3 hr3 => ?_
  split at f3
  · rename_i e1
    obtain ⟨ea, h⟩ := dict_get hr3 (RD.same (g2.trans g3).same _ _ r1) (RD.same g3.same _ _ r2) e1
    cases ea
    rcases h with ⟨n1, n2⟩ | ⟨v, d, n1, n2, rd⟩
    · rw [n1] at f3
      exact ⟨none, n2, q _ M3 _ H3 f3 ((g1.trans g2).trans g3) r3 hr3⟩
    · rw [n1] at f3
      exact ⟨some v, n2, q _ M3 _ H3 f3 ((g1.trans g2).trans g3) rd hr3⟩
  · exact f3.elim
/-! ### methods -/
/-- a method of the class at C -/
structure DMeth (P : Program) (w : World) (K : PySem.W.Frag) (mg : Str → Option Value) (base : Heap) (C : Addr) (m : Str) (k : Nat) (F : DF) : Prop where
  ex : ∃ (f : Addr) (fd : FuncData) (ps : List Str), Cls K C ∧ Meth K C m f ∧ Gk P w K mg base k f fd ps (spD K F) ∧ Binds K fd ps []
def dMethO (C : Addr) (m : Str) (F : DF) (O : DE) (G : DA) : DE := fun env M Q => O env M fun x M1 => match x with
  | .ref p => match M1 p with
    | some (.ins C' _ fs) => (C' = C ∧ fs.lookup m = none) ∧ G env M1 fun ds M2 => F (.ref p :: ds) M2 Q
    | _ => False
  | _ => False
theorem RE.methO (h1 : RE K to_ O) (h2 : RA K tt n G) : RE K (tMeth C m (spD K F) [] E0 to_ tt) (dMethO C m F O G) := by
  intro S σ H env M Q R rn hr f0 q
  refine h1 S σ H env M _ _ rn hr f0 fun d M1 v H1 f1 g1 r1 hr1 => ?_
  split at f1
  · split at f1
    · rename_i e1
      obtain ⟨⟨rfl, ln⟩, f1⟩ := f1
      cases r1
      obtain ⟨u, z1, z2⟩ := hr1.obj _ _ e1
      cases z2 with
      | ins r =>
        refine ⟨_, _, _, rfl, z1, r.lookN ln, h2 S σ H1 env M1 _ _ (rn.same g1.same) hr1 f1 fun ds M2 vs H2 f2 l2 g2 rs hr2 => ?_⟩
        rw [List.append_nil]
        exact ⟨S, _, M2, R, .cons (.ref _) rs, hr2, f2, fun d M' v H' h k rd hr' => q d M' v H' h ((g1.trans g2).trans k) rd hr'⟩
    · exact f1.elim
  · exact f1.elim
theorem d_meth {pl : Sem Bool} (hg : X.A.guards = some []) (c : DMeth X.prog X.w X.K X.mg X.base C m k F) (hr : Room j X.A) (h1 : Ex X o to_ O) (h2 : As X (e :: es) tt n G) (hk : k ≤ j := by decide)
    (st : starEach (e :: es) X.env = (false, eval e X.env) :: starEach es X.env := by rfl) (pb : (backTo pos (starEach es X.env)).any (·.1) = false := by rfl)
    (ht : eval (.Call (.Attribute o m apos) (e :: es) [] pos) X.env = (do
        let ov ← eval o X.env
        standAt apos.atName
        let fm ← holding [ov] (getMethod ov m pl)
        callWith pos fm.1 fm.2 (backTo pos (starEach (e :: es) X.env)) (backToKw pos (keywordEach [] X.env))) := by rfl) (hK : X.K = K := by rfl) :
    Ex X (.Call (.Attribute o m apos) (e :: es) [] pos) (tMeth C m (spD K F) [] E0 to_ tt) (dMethO C m F O G) := by
  subst hK
  obtain ⟨f, fd, ps, cl, mt, g, b⟩ := c.ex
  exact ⟨pe_methG hg h1.p cl mt g (hr.mono hk) b h2.p st pb ht, RE.methO h1.r h2.r⟩
/-- o.m() -/
theorem d_meth0 {pl : Sem Bool} (hg : X.A.guards = some []) (c : DMeth X.prog X.w X.K X.mg X.base C m k F) (hr : Room j X.A) (h1 : Ex X o to_ O) (hk : k ≤ j := by decide)
    (ht : eval (.Call (.Attribute o m apos) [] [] pos) X.env = (do
        let ov ← eval o X.env
        standAt apos.atName
        let fm ← holding [ov] (getMethod ov m pl)
        callWith pos fm.1 fm.2 (backTo pos (starEach [] X.env)) (backToKw pos (keywordEach [] X.env))) := by rfl) (hK : X.K = K := by rfl) :
    Ex X (.Call (.Attribute o m apos) [] [] pos) (tMeth C m (spD K F) [] E0 to_ tNil) (dMethO C m F O dANil) := by
  subst hK
  obtain ⟨f, fd, ps, cl, mt, g, b⟩ := c.ex
  refine ⟨⟨fun pins s σ H Q I h => ?_⟩, RE.methO h1.r a_nil.r⟩
  refine PySem.W.methodCall_KW (pl := pl) (thn (h1.p.run pins s σ H _ I h) ?_) ht
  rintro u s1 ⟨v, H1, I1, rv, a, dx, fs, ev, ea, lo, q⟩
  cases ev
  cases (show u = Value.ref a from rv)
  refine getmeth_ok I1 ea cl mt lo ?_
  exact PySem.W.callWith_K0 (first := [.ref a]) I1.kIn mt.kp (runG (us := [.ref a]) (vs := [.ref a]) hg g (hr.mono hk) b I1 (.cons rfl .nil) q)
/-! ### new instances -/
structure DMk (P : Program) (w : World) (K : PySem.W.Frag) (mg : Str → Option Value) (base : Heap) (x : Str) (C : Addr) (k : Nat) (F : DF) : Prop where
  ex : ∃ (f : Addr) (fd : FuncData) (ps : List Str), Mk K C f ∧ mg x = some (.ref C) ∧ Gk P w K mg base k f fd ps (spD K F) ∧ Binds K fd ps []
theorem runMakeG {pins : List (Addr × Obj)} {σ : L2.St} {H : Hp} {s : Shared} {Q : VK} {us : List Value} {vs : List V} {fI : Addr} {fd : FuncData} {ps : List Str} {sp : Sp} (hg : X.A.guards = some []) (mk : Mk X.K C fI) (g : Gk X.prog X.w X.K X.mg X.base k fI fd ps sp)
    (room : Room (k + 1) X.A) (B : Binds X.K fd ps []) (I : Inv X pins σ H s) (vals : Vals vs us)
    (h : ∀ x dx, H x = none → H dx = none → dx ≠ x → sp (.ref x :: vs) (upd (upd H dx (.own x)) x (.ins C dx [])) (fun v H2 => v = .non ∧ Q (.ref x) H2) E0) :
    wpAny (model X.prog X.w) X.A (call (.ref C) us) (EP X pins σ Q) X.xe s := by
  have want := h (s.heap.objs.size + 1) s.heap.objs.size (I.hok.fresh (Nat.le_succ _)) (I.hok.fresh (Nat.le_refl _)) (Nat.ne_of_lt (Nat.lt_succ_self _))
  have J := Inv.made (C := C) I
  have vals2 : Vals (V.ref (s.heap.objs.size + 1) :: vs) (Value.ref (s.heap.objs.size + 1) :: us) := .cons rfl vals
  have n1 : (Value.ref (s.heap.objs.size + 1) :: us).length = ps.length := by
    rw [← vals2.length]
    exact g.len _ _ _ _ want
  have bind := B _ (Value.ref (s.heap.objs.size + 1) :: us) J.kIn (by rw [List.append_nil]; exact n1)
  rw [List.append_nil] at bind
  refine wpAny_call (make_map (f := fI) I.kIn mk.makes mk.init (beq_iff_eq.mp mk.fn) (codeAny_mono (g.go (args := ⟨Value.ref (s.heap.objs.size + 1) :: us, []⟩) hg (room.make C us []) (J.env0.make C us []) bind vals2 want) fun r s2 h2 => ?_))
  match r, h2 with
  | .error _, h => exact h.elim
  | .ok (.ret u), h =>
    obtain ⟨v, H3, I3, rv, ev, q3⟩ := J.after h
    subst ev
    exact ⟨rv, ⟨V.ref (s.heap.objs.size + 1), H3, I3, rfl, q3⟩⟩
  | .ok .next, h => exact h.elim
  | .ok .brk, h => exact h.elim
  | .ok .cont, h => exact h.elim
def dMk (C : Addr) (F : DF) (G : DA) : DE := fun env M Q => G env M fun ds M1 => ∀ x dx, M1 x = none → M1 dx = none → dx ≠ x → F (.ref x :: ds) (mup (mup M1 dx (.own x)) x (.ins C dx [])) (fun v M2 => v = .non ∧ Q (.ref x) M2)
end
end Vk
set_option linter.unusedVariables false
set_option linter.unusedSimpArgs false
/-! DLQ: new instances, repr, len of a dict -/
namespace Vk
open PySem PySem.Spec PyProof.Rows L2
section
variable {X : Cx} {K : PySem.W.Frag} {o e a : Expr} {es : List Expr} {to_ ta ti tz : TE} {tt : TA} {O A I Z : DE} {G : DA} {f x m : Str} {p pos apos cpos : Pos} {C : Addr} {k j n : Nat} {F : DF}
theorem RE.mk_ (h2 : RA K tt n G) : RE K (tMake C (spD K F) [] E0 tt) (dMk C F G) := by
  intro S σ H env M Q R rn hr f0 q
  refine h2 S σ H env M _ _ rn hr f0 fun ds M1 vs H1 f1 l1 g1 rs hr1 x dx hx hdx hne => ?_
  rw [List.append_nil]
  have hx2 : (upd H1 dx (.own x)) x = none := by rw [upd_ne (Ne.symm hne)]; exact hx
  obtain ⟨ga, hra⟩ := hr1.newM hdx (.own x)
  obtain ⟨gb, hrb⟩ := hra.newM (o := .ins C dx []) hx2 (.ins .nil)
  have gg := ga.trans gb
  refine ⟨S, _, _, fun v M2 => v = .non ∧ R (.ref x) M2, .cons (.ref x) (RDs.same gg.same _ _ rs), hrb, f1 x dx (hr1.fresh hx).2 (hr1.fresh hdx).2 hne, ?_⟩
  rintro d M' v H' ⟨rfl, h⟩ g rd hr'
  cases rd
  exact ⟨rfl, q _ M' _ H' h ((g1.trans gg).trans g) (.ref x) hr'⟩
/-- C(e, ..) -/
theorem d_mk (hg : X.A.guards = some []) (c : DMk X.prog X.w X.K X.mg X.base x C k F) (hr : Room j X.A) (gl : Gl X x) (h2 : As X (e :: es) tt n G) (hk : k + 1 ≤ j := by decide) (dbg : (x == ("__debug__" : Str)) = false := by decide)
    (st : starEach (e :: es) X.env = (false, eval e X.env) :: starEach es X.env := by rfl) (pl : (backTo pos (starEach es X.env)).any (·.1) = false := by rfl) (hK : X.K = K := by rfl) :
    Ex X (.Call (.Name x p) (e :: es) [] pos) (tMake C (spD K F) [] E0 tt) (dMk C F G) := by
  subst hK
  obtain ⟨fI, fd, ps, mk, hm, g, b⟩ := c.ex
  refine ⟨⟨fun pins s σ H Q I h => ?_⟩, RE.mk_ h2.r⟩
  refine wpAny_Call_Name_kw (ld_glob I gl hm ?_ dbg)
  refine PySem.W.callWith_K (h₀ := X.base) I.ok.mod.kin mk.kp (thn (h2.p.run pos pins s σ H _ I h) ?_) st pl
  rintro us s1 ⟨vs, H1, I1, r, q⟩
  refine ⟨I1.kIn, runMakeG hg mk g (hr.mono hk) b I1 r fun x dx h1 h2 h3 => ?_⟩
  have := q x dx h1 h2 h3
  rw [List.append_nil] at this
  exact this
/-- C() -/
theorem d_mk0 (hg : X.A.guards = some []) (c : DMk X.prog X.w X.K X.mg X.base x C k F) (hr : Room j X.A) (gl : Gl X x) (hk : k + 1 ≤ j := by decide) (dbg : (x == ("__debug__" : Str)) = false := by decide) (hK : X.K = K := by rfl) :
    Ex X (.Call (.Name x p) [] [] pos) (tMake C (spD K F) [] E0 tNil) (dMk C F dANil) := by
  subst hK
  obtain ⟨fI, fd, ps, mk, hm, g, b⟩ := c.ex
  refine ⟨⟨fun pins s σ H Q I h => ?_⟩, RE.mk_ a_nil.r⟩
  refine wpAny_Call_Name_kw (ld_glob I gl hm ?_ dbg)
  exact PySem.W.callWith_K0 I.kIn mk.kp (runMakeG (us := []) hg mk g (hr.mono hk) b I .nil h)
/-- {} -/
def dDic0 : DE := fun env M Q => ∀ p, M p = none → Q (.ref p) (mup M p (.dK []))
theorem d_dic0 : Ex X (.Dict [] [] pos) tDNewK dDic0 := by
  refine ⟨pe_dnewK, ?_⟩
  intro S σ H env M Q R rn hr f q
  intro p hp
  obtain ⟨g2, hr2⟩ := hr.newM hp (.dK .nil)
  exact q _ _ _ _ (f p (hr.fresh hp).2) g2 (.ref p) hr2
/-! ### what never runs -/
theorem d_never : Ex X e (fun _ _ _ => False) (fun _ _ _ => False) := ⟨⟨fun _ _ _ _ _ _ h => h.elim⟩, fun _ _ _ _ _ _ _ _ _ h _ => h.elim⟩
theorem s_never {st : Stmt} : Sm X st (fun _ _ _ => False) (fun _ _ _ => False) := ⟨⟨fun _ _ _ _ _ _ h => h.elim⟩, fun _ _ _ _ _ _ _ _ _ h _ => h.elim⟩
/-! ### repr, len of a dict -/
def okV (d : Dv) : Bool := datD d && okD (toP d)
def gRepr : DL := fun ds M Q => match ds with
  | [d] => (okV d = true ∧ (toP d).depth ≤ 60 ∧ (toP d).shown.length ≤ sizeLine) ∧ Q (.str (toP d).shown) M
  | _ => False
theorem k_repr (hg : X.A.guards = some []) (room : Room j X.A) (hK : X.K = K := by rfl) : Cb X (.builtin "repr") (rRepr K) gRepr := by
  subst hK
  refine ⟨call_reprD hg room, ?_⟩
  intro S H vs ds M Q R rs hr f0 q
  unfold gRepr at f0
  split at f0
  · obtain ⟨v, rfl, rd⟩ := rs.one
    obtain ⟨⟨h1, h2, h3⟩, f1⟩ := f0
    unfold okV at h1
    rw [Bool.and_eq_true] at h1
    exact ⟨v, _, rfl, RD.dp _ _ h1.1 rd, h1.2, h2, h3, q _ M _ H f1 Gr.refl (.str _) hr⟩
  · exact f0.elim
abbrev rLenD : List V → Hp → VK → Prop := fun xs H Q => ∃ a kvs, xs = [V.ref a] ∧ H a = some (.dK kvs) ∧ Q (.int kvs.length) H
def gLenD : DL := fun ds M Q => match ds with
  | [.ref p] => match M p with
    | some (.dK kds) => Q (.int (kds.length : Nat)) M
    | _ => False
  | _ => False
theorem k_lenD : Cb X (.builtin "len") rLenD gLenD := by
  refine ⟨call_lenD, ?_⟩
  intro S H vs ds M Q R rs hr f0 q
  unfold gLenD at f0
  split at f0
  · split at f0
    · rename_i e1
      obtain ⟨v, rfl, rd⟩ := rs.one
      cases rd
      obtain ⟨u, z1, z2⟩ := hr.obj _ _ e1
      cases z2 with
      | dK r => exact ⟨_, _, rfl, z1, q _ M _ H (by rw [r.len]; exact f0) Gr.refl (.int _) hr⟩
    · exact f0.elim
  · exact f0.elim
end
#print axioms d_mk0
#print axioms k_repr
end Vk
set_option linter.unusedVariables false
set_option linter.unusedSimpArgs false
/-! DLR: x += e, xs[i] += e (ints) -/
namespace Vk
open PySem PySem.Spec PyProof.Rows L2
section
variable {X : Cx} {K : PySem.W.Frag} {o e a : Expr} {to_ ta ti : TE} {O A I : DE} {x : Str} {p pos tpos : Pos} {op : Operator} {f : Int → Int → Int}
def dAug (i : Nat) (f : Int → Int → Int) (A : DE) : DS := fun E env M => match env[i]? with
  | some (some (.int u)) => A env M fun y M1 => match y with
    | .int w => E.nx (env.set i (some (.int (f u w)))) M1
    | _ => False
  | _ => False
theorem s_aug {i : Nat} (ho : PIp X op (ipI f)) (hN : X.N.Nodup) (h : Ex X e ta A) (hi : X.N[i]? = some x := by rfl) (hx : Loc X.env.scope x := by first | exact Or.inl rfl | exact Or.inr rfl) (hf : X.fn x = true ∨ X.env.scope.names.lookup x = some .local := by first | exact .inl rfl | exact .inr rfl) :
    Sm X (.AugAssign (.Name x tpos) op e pos) (tAug i ta (ipI f)) (dAug i f A) := by
  refine ⟨ps_aug hN hi hx h.p ho hf, ?_⟩
  intro S σ H env M D E rn hr f0 c
  unfold dAug at f0
  split at f0
  · rename_i u e1
    obtain ⟨v, ev, rd⟩ := rn.at_ i _ e1
    cases rd
    refine ⟨_, ev, h.r S σ H env M _ _ rn hr f0 fun y M1 w H1 f1 g1 r1 hr1 => ?_⟩
    split at f1
    · cases r1
      exact ⟨_, _, rfl, rfl, c.nx _ M1 _ H1 f1 g1 ((rn.same g1.same).set (.int _) i) hr1⟩
    · exact f1.elim
  · exact f0.elim
/-- xs[i], by values -/
def rGetL (K : PySem.W.Frag) : V → V → Hp → VK → Prop := fun x y H Q => ∃ p xs, ∃ j : Nat, ∃ v, x = .ref p ∧ y = .int (j : Nat) ∧ SqL K H p xs ∧ xs[j]? = some v ∧ Q v H
theorem pget_list : PGet X (rGetL X.K) := by
  intro pins s σ H x y u w Q I rx ry h
  obtain ⟨p, xs, j, z, rfl, rfl, hq, he, q⟩ := h
  cases rx
  obtain ⟨t, rfl⟩ := ry
  obtain ⟨its, r, pl, hz⟩ := I.list hq
  obtain ⟨w, ew, rw'⟩ := r.get he
  have hl := r.length
  have hj : j < its.length := by
    have := List.getElem?_eq_some_iff.mp ew
    exact this.1
  have hn := line63
  exact wpAny_getItem_list pl.isList (by omega) (by omega) (by simpa using ew) ⟨z, H, I, rw', q⟩
def dAugL (f : Int → Int → Int) (O I A : DE) : DS := fun E env M => O env M fun o M1 => I env M1 fun i M2 => match o, i with
  | .ref p, .int k => match M2 p with
    | some (.lst xs) => 0 ≤ k ∧ match xs[k.toNat]? with
      | some (.int u) => A env M2 fun y M3 => match y, M3 p with
        | .int w, some (.lst ys) => k.toNat < ys.length ∧ E.nx env (mup M3 p (.lst (ys.set k.toNat (.int (f u w)))))
        | _, _ => False
      | _ => False
    | _ => False
  | _, _ => False
theorem s_augL (ho : PIp X op (ipI f)) (h1 : Ex X o to_ O) (h2 : Ex X e ti I) (h3 : Ex X a ta A) (hK : X.K = K := by rfl)
    (ha : ∀ ov iv new, augStore e ov iv new = (do holding [new, ov, iv] (setItem ov iv new); release [new, ov, iv] []; pure .next) := by intros; rfl) :
    Sm X (.AugAssign (.Subscript o e tpos) op a pos) (tAugS to_ ti ta (rGetL K) (ipI f) rSetL) (dAugL f O I A) := by
  subst hK
  refine ⟨ps_augS h1.p h2.p pget_list h3.p ho set_list ha, ?_⟩
  intro S σ H env M D E rn hr f0 c
  refine h1.r S σ H env M _ _ rn hr f0 fun oo M1 x H1 f1 g1 r1 hr1 => ?_
  refine h2.r S σ H1 env M1 _ _ (rn.same g1.same) hr1 f1 fun ii M2 y H2 f2 g2 r2 hr2 => ?_
  split at f2
  · rename_i p k
    split at f2
    · rename_i xs e1
      obtain ⟨k0, f2⟩ := f2
      split at f2
      · rename_i u e2
        cases r1
        cases r2
        obtain ⟨_, z1, z2⟩ := hr2.obj _ _ e1
        cases z2 with
        | lst ra =>
          obtain ⟨v, ev, rd⟩ := ra.at e2
          cases rd
          have ek : k = ((k.toNat : Nat) : Int) := by omega
          refine ⟨p, _, k.toNat, _, rfl, by rw [← ek], SqL.of z1, ev, ?_⟩
          refine h3.r S σ H2 env M2 _ _ (rn.same (g1.trans g2).same) hr2 f2 fun yy M3 z H3 f3 g3 r3 hr3 => ?_
          split at f3
          · rename_i w ys e3
            cases r3
            obtain ⟨_, y1, y2⟩ := hr3.obj _ _ e3
            cases y2 with
            | lst rb =>
              obtain ⟨g, hr'⟩ := hr3.put (o := .lst _) e3 (.lst (rb.set (.int (f u w)) k.toNat))
              have gg := ((g1.trans g2).trans g3).trans g
              refine ⟨u, w, rfl, rfl, p, _, k, k.toNat, rfl, rfl, y1, ?_, c.nx env _ σ _ f3.2 gg (rn.same gg.same) hr'⟩
              have hl := rb.len
              unfold ixN
              rw [if_pos k0, if_pos (by omega)]
          · exact f3.elim
      · exact f2.elim
    · exact f2.elim
  · exact f2.elim
end
end Vk
set_option linter.unusedVariables false
set_option linter.unusedSimpArgs false
/-! DLS: a pattern of a tuple within a tuple's pattern -/
namespace Vk
open PySem PySem.Spec PyProof.Rows L2
section
variable {X : Cx} {K : PySem.W.Frag} {pos : Pos} {ps ps1 : List Pattern} {ns ns1 : List Str} {t tp1 : TPs} {q q1 : List DPat}
def tPSeq (K : PySem.W.Frag) (n : Nat) (tp : TPs) : TPt := fun v H Q => (NoSeq v ∧ Q none H) ∨ ∃ a vs, v = .ref a ∧ SqT K H a vs ∧ (¬ vs.length = n → Q none H) ∧ (vs.length = n → tp vs H Q)
theorem ppt_seq {n : Nat} (hc : X.calm = true) (hp : PPs X ps1 ns1 tp1) (hn : ps1.length = n) (hstar : ps1.findIdx? (·.isStar) = none) (hwild : (ps1.all fun p => p.isWildcard || (p.isStar && p.names.isEmpty)) = false) :
    PPt X (.MatchSequence ps1 pos) ns1 (tPSeq X.K n tp1) := by
  refine ⟨fun pins s σ H v u Q I r h => ?_⟩
  rcases h with ⟨hv, q⟩ | ⟨a, vs, rfl, hq, miss, hit⟩
  · have flag : ∀ {T : String}, s.TypeIs u T → flagOfType true (.type T) = pure false → wpAny (model X.prog X.w) X.A (matchPattern (.MatchSequence ps1 pos) X.env u) (Fits X pins σ ns1 Q) X.xe s := fun ht hf =>
      wpAny_matchPattern_Sequence (wpAny_collectionFlag ht hf ⟨H, I, .inl ⟨rfl, q⟩⟩) hstar hwild
    cases v with
    | non => cases (show u = Value.none from r); exact flag (T := "NoneType") rfl flag_seq_None
    | bl b => cases (show u = Value.bool b from r); exact flag (T := "bool") rfl flag_seq_bool
    | int i => obtain ⟨t, rfl⟩ := (show ∃ t, u = Value.int i t from r); exact flag (T := "int") rfl flag_seq_int
    | str x => obtain ⟨t, rfl⟩ := (show ∃ t, u = Value.str x t from r); exact flag (T := "str") rfl flag_seq_str
    | byt b => exact hv.elim
    | flt b => exact hv.elim
    | ty b => exact hv.elim
    | ref b => exact hv.elim
  · cases r
    obtain ⟨its, rv, ht, hz⟩ := I.tuple hq
    have e0 : (sizeLine : Nat) = 16777216 := by decide +kernel
    have ll := rv.length
    have le : (its.toArray.size : Int) < 2 ^ 63 := by
      simp only [List.size_toArray]
      omega
    have ln : its.toArray.size = vs.length := by
      rw [List.size_toArray]
      exact ll.symm
    by_cases c : vs.length = n
    · refine matchSeq_tuple_hit ht le (by rw [ln, c, hn]) ?_ hstar hwild
      have I0 : Inv X pins σ H { s with toks := s.toks + 1 + 1 } := I.tok _
      have e1 : ps1.length = its.toArray.size := by rw [ln, c, hn]
      rw [e1]
      refine unpackItems_tuple (I.ok.hd hc) ht fun h' hx => ?_
      have I1 : Inv X pins σ H { s with toks := s.toks + 1 + 1, heap := h' } := I0.kept (t' := s.toks + 1 + 1) fun b o e => hx b o (Nat.ne_of_lt (Heap.lt_size e)) e
      exact hp.run pins _ σ H vs its _ I1 rv (hit c)
    · exact matchSeq_tuple_miss ht le (by rw [ln, hn]; exact c) ⟨H, I.tok _, .inl ⟨rfl, miss c⟩⟩ hstar hwild
def subP (q : List DPat) : Dv → Option (Option (List Dv))
  | .tup ds => if ds.length = q.length then matchP q ds else some none
  | .non => some none
  | .bl _ => some none
  | .int _ => some none
  | .str _ => some none
  | _ => none
theorem ps_sub (hc : X.calm = true) (h1 : Pats X ps1 ns1 tp1 q1) (h : Pats X ps ns t q) (hn : ps1.length = q1.length := by rfl) (hstar : ps1.findIdx? (·.isStar) = none := by rfl) (hwild : (ps1.all fun p => p.isWildcard || (p.isStar && p.names.isEmpty)) = false := by rfl) :
    Pats X (.MatchSequence ps1 pos :: ps) (ns1 ++ ns) (tPCons (tPSeq X.K q1.length tp1) t) (.sub (subP q1) :: q) := by
  refine ⟨pps_cons (ppt_seq hc h1.p hn hstar hwild) h.p, ?_⟩
  intro S H M vs ds Q hl rs hr f
  cases rs with
  | nil => cases hl
  | @cons v d vs ds a b =>
    refine ⟨v, vs, rfl, ?_⟩
    rw [matchP] at f
    have hl' : ds.length = q.length := by simpa using hl
    have cont : ∀ ws cs, RDs X.K (hid S M H) ws cs → (match matchP q ds with | none => False | some none => Q none H | some (some es) => ∀ zs, RDs X.K (hid S M H) zs (cs ++ es) → Q (some zs) H) →
        t vs H fun o2 H2 => match o2 with | none => Q none H2 | some zs => Q (some (ws ++ zs)) H2 := fun ws cs hw k => by
      refine h.r S H M vs ds _ hl' b hr ?_
      cases e : matchP q ds with
      | none => rw [e] at k; exact k.elim
      | some o =>
        rw [e] at k
        cases o with
        | none => exact k
        | some es => exact fun zs hz => k _ (hw.app hz)
    have atom : NoSeq v → Q none H → tPSeq X.K q1.length tp1 v H fun o H1 => match o with | none => Q none H1 | some ws => t vs H1 fun o2 H2 => match o2 with | none => Q none H2 | some zs => Q (some (ws ++ zs)) H2 := fun n k => .inl ⟨n, k⟩
    cases a with
    | non => exact atom trivial f
    | bl b => exact atom trivial f
    | int i => exact atom trivial f
    | str x => exact atom trivial f
    | lst ha ra => exact f.elim
    | scr ha => exact f.elim
    | ref p => exact f.elim
    | ty p => exact f.elim
    | @tup _ _ d1 ha ra =>
      have el := ra.len
      refine .inr ⟨_, _, rfl, sqT_hid ha, fun nl => ?_, fun yl => ?_⟩
      · unfold subP at f
        simp only at f
        rw [if_neg (by rw [← el]; exact nl)] at f
        exact f
      · unfold subP at f
        simp only at f
        rw [if_pos (by rw [← el]; exact yl)] at f
        refine h1.r S H M _ _ _ (by rw [← el]; exact yl) ra hr ?_
        cases e : matchP q1 d1 with
        | none => rw [e] at f; exact f.elim
        | some o =>
          rw [e] at f
          cases o with
          | none => exact f
          | some cs =>
            intro ws hw
            refine cont ws cs hw ?_
            cases e2 : matchP q ds with
            | none => rw [e2] at f; exact f.elim
            | some o2 =>
              rw [e2] at f
              cases o2 with
              | none => exact f
              | some es => exact f
end
end Vk
set_option linter.unusedVariables false
set_option linter.unusedSimpArgs false
/-! DLT: sorted, sum, max, min of a list of ints -/
namespace Vk
open PySem PySem.Spec PyProof.Rows L2
theorem ints_rd {K : PySem.W.Frag} {G : Hp} : ∀ {ns : List Int} {vs : List V}, RDs K G vs (ns.map Dv.int) → vs = ns.map V.int
  | [], _, h => by cases h; rfl
  | n :: r, _, h => by
    cases h with
    | cons a b =>
      cases a
      rw [ints_rd b]
      rfl
theorem rd_ints {K : PySem.W.Frag} {G : Hp} : ∀ ns : List Int, RDs K G (ns.map V.int) (ns.map Dv.int)
  | [] => .nil
  | n :: r => .cons (.int n) (rd_ints r)
section
variable {X : Cx} {K : PySem.W.Frag}
/-- a list of ints -/
def IntsAt (M : MH) (d : Dv) (ns : List Int) : Prop := lsD M d = some (ns.map Dv.int) ∨ d = .scr ns
theorem ints_at {S : Addr → Bool} {M : MH} {H : Hp} {v : V} {d : Dv} {ns : List Int} (hr : HR K S M H) (h : RD K (hid S M H) v d) (e : IntsAt M d ns) : ∃ a, v = .ref a ∧ SqL K H a (ns.map V.int) := by
  rcases e with e | rfl
  · obtain ⟨a, vs, rfl, ha, ra⟩ := ls_rd hr h e
    rw [ints_rd ra] at ha
    exact ⟨a, rfl, SqL.of ha⟩
  · cases h with
    | scr ha => exact ⟨_, rfl, sqL_hid ha⟩
def gSorted : DL := fun ds M Q => ∃ d ns, ds = [d] ∧ IntsAt M d ns ∧ ns.length < 64 ∧ ∀ ns' : List Int, ns'.Perm ns → ns'.Pairwise (· ≤ ·) → Q (.lst (ns'.map .int)) M
theorem k_sorted (hK : X.K = K := by rfl) : Cb X (.builtin "sorted") (rSorted K) gSorted := by
  subst hK
  refine ⟨cr_sorted, ?_⟩
  intro S H vs ds M Q R rs hr f0 q
  obtain ⟨d, ns, rfl, hi, hl, f⟩ := f0
  obtain ⟨v, rfl, rd⟩ := rs.one
  obtain ⟨a, rfl, sq⟩ := ints_at hr rd hi
  refine ⟨a, ns, rfl, sq, hl, fun ns' p h1 h2 hp => ?_⟩
  obtain ⟨g2, hr2, rd2⟩ := RD.newL hr hp (rd_ints ns')
  exact q _ M _ _ (f ns' h1 h2) g2 rd2 hr2
def gSum : DL := fun ds M Q => ∃ d ns, ds = [d] ∧ IntsAt M d ns ∧ Q (.int ns.sum) M
theorem k_sum (hc : X.calm = true) (hK : X.K = K := by rfl) : Cb X (.builtin "sum") (rSum K) gSum := by
  subst hK
  refine ⟨cr_sum hc, ?_⟩
  intro S H vs ds M Q R rs hr f0 q
  obtain ⟨d, ns, rfl, hi, f⟩ := f0
  obtain ⟨v, rfl, rd⟩ := rs.one
  obtain ⟨a, rfl, sq⟩ := ints_at hr rd hi
  exact ⟨a, ns, rfl, sq, q _ M _ H f Gr.refl (.int _) hr⟩
def gMax1 : DL := fun ds M Q => ∃ d ns, ds = [d] ∧ IntsAt M d ns ∧ 0 < ns.length ∧ ∀ m, m ∈ ns → (∀ y, y ∈ ns → y ≤ m) → Q (.int m) M
theorem k_max1 (hc : X.calm = true) (hK : X.K = K := by rfl) : Cb X (.builtin "max") (rMax K) gMax1 := by
  subst hK
  refine ⟨cr_max hc, ?_⟩
  intro S H vs ds M Q R rs hr f0 q
  obtain ⟨d, ns, rfl, hi, hl, f⟩ := f0
  obtain ⟨v, rfl, rd⟩ := rs.one
  obtain ⟨a, rfl, sq⟩ := ints_at hr rd hi
  exact ⟨a, ns, rfl, sq, hl, fun m h1 h2 => q _ M _ H (f m h1 h2) Gr.refl (.int _) hr⟩
end
end Vk
set_option linter.unusedVariables false
set_option linter.unusedSimpArgs false
/-! DLU: max(list of ints, default=d) -/
namespace Vk
open PySem PySem.Spec PyProof.Rows L2
theorem reads_ints {h : Heap} : ∀ {ns : List Int} {us : List Value}, Vals (ns.map V.int) us → ∃ as, ReadsAll h us (ns.map PyData.int) as
  | [], _, r => by cases r; exact ⟨_, .nil⟩
  | n :: ns, _, r => by
    cases r with
    | cons a b =>
      obtain ⟨t, rfl⟩ := a
      obtain ⟨as, h⟩ := reads_ints b
      exact ⟨_, .cons (.int n t) h⟩
theorem depth_ints : ∀ ns : List Int, PyData.depthAll (ns.map PyData.int) = 0
  | [] => rfl
  | n :: r => by
    rw [List.map_cons, PyData.depthAll, depth_ints r]
    rfl
def maxI (ns : List Int) (z : Dv) : Dv := match ns with
  | [] => z
  | n :: r => .int (r.foldl max n)
section
variable {X : Cx} {K : PySem.W.Frag} {e c : Expr} {te td : TE} {A B : DE} {x : Str} {p pos kp : Pos}
def tMaxD (K : PySem.W.Frag) (ta : TA) (td : TE) : TE := fun σ H Q => ta σ H fun vs H1 => ∃ v, vs = [v] ∧ td σ H1 fun z H2 => ∃ a ns, v = .ref a ∧ SqL K H2 a (ns.map V.int) ∧ Q (match ns with | [] => z | n :: r => .int (r.foldl max n)) H2
theorem pe_maxD {ta : TA} (hc : X.calm = true) (hu : X.A.units + 64 < cLine) (hg : Gl X x) (hm : X.mg x = none) (hv : bootBuiltins x = some (.builtin "max")) (he : PA X [e] ta) (hd : PE X c td) (hn : x ≠ "__name__" := by decide) (hdb : (x == ("__debug__" : Str)) = false := by decide)
    (ht : backTo pos (starEach [e] X.env) = (false, eval e X.env) :: backTo pos (starEach [] X.env) := by rfl) :
    PE X (.Call (.Name x p) [e] [⟨some "default", c, kp⟩] pos) (tMaxD X.K ta td) := by
  refine ⟨fun pins s σ H Q I h => ?_⟩
  refine wpAny_Call_Name_kw (ld_blt I hg hm hv ?_ hn hdb)
  refine PyProof.Rows.callWith_kw (thn (he.run pos pins s σ H _ I h) fun us s1 ⟨vs, H1, I1, r1, v, ev, q1⟩ => ?_) ht (by rw [ht]; rfl) (by rfl) (by rfl)
  · subst ev
    refine PyProof.Rows.kws_cons (thn (hd.run pins s1 σ H1 _ I1 q1) fun z s2 ⟨zv, H2, I2, rz, a, ns, ea, sq, q2⟩ => PyProof.Rows.kws_nil ?_)
    subst ea
    rw [Vals.ref1 r1]
    obtain ⟨its, rv, hl, _⟩ := I2.list sq
    obtain ⟨as, ra⟩ := reads_ints (h := s2.heap) rv
    show wpAny _ _ (call (.builtin "max") [.ref a] [(Str.ofString "default", z)]) _ _ _
    refine PySem.W.max_list_default (I2.ok.hd hc) hl.isList (xs := ns.map PyData.int) (as := as) ra ⟨fun x hx y hy => ?_, fun x hx => ?_⟩ (by rw [depth_ints]; omega) (fun h0 h' tk hk => ?_) (fun y ys i v h' tk bs hxs hv hr hk => ?_)
    · obtain ⟨i, _, rfl⟩ := List.mem_map.mp hx
      obtain ⟨j, _, rfl⟩ := List.mem_map.mp hy
      rfl
    · obtain ⟨i, _, rfl⟩ := List.mem_map.mp hx
      intro z
      cases z
    · have : ns = [] := by simpa using h0
      subst this
      exact ⟨zv, H2, I2.kept hk, rz, q2⟩
    · cases ns with
      | nil => cases hxs
      | cons n r =>
        rw [List.map_cons] at hxs
        cases hxs
        rw [PySem.W.maxD_ints] at hr
        cases hr
        exact ⟨.int _, H2, I2.kept hk, ⟨_, rfl⟩, q2⟩
/-- max(e, default = c) of a list of ints -/
def dMaxD (G : DA) (B : DE) : DE := fun env M Q => G env M fun ds M1 => ∃ d, ds = [d] ∧ B env M1 fun z M2 => ∃ ns, IntsAt M2 d ns ∧ Q (maxI ns z) M2
theorem d_maxD {ta : TA} {n : Nat} {G : DA} (hc : X.calm = true) (hu : X.A.units + 64 < cLine) (hg : Gl X x) (hm : X.mg x = none) (hv : bootBuiltins x = some (.builtin "max")) (h1 : As X [e] ta n G) (h2 : Ex X c td B) (hn : x ≠ "__name__" := by decide) (hdb : (x == ("__debug__" : Str)) = false := by decide)
    (ht : backTo pos (starEach [e] X.env) = (false, eval e X.env) :: backTo pos (starEach [] X.env) := by rfl) (hK : X.K = K := by rfl) :
    Ex X (.Call (.Name x p) [e] [⟨some "default", c, kp⟩] pos) (tMaxD K ta td) (dMaxD G B) := by
  subst hK
  refine ⟨pe_maxD hc hu hg hm hv h1.p h2.p hn hdb ht, ?_⟩
  intro S σ H env M Q R rn hr f0 q
  refine h1.r S σ H env M _ _ rn hr f0 fun ds M1 vs H1 f1 l1 g1 rs hr1 => ?_
  obtain ⟨d, rfl, f1⟩ := f1
  obtain ⟨v, rfl, rd⟩ := rs.one
  refine ⟨v, rfl, h2.r S σ H1 env M1 _ _ (rn.same g1.same) hr1 f1 fun z M2 zv H2 f2 g2 rz hr2 => ?_⟩
  obtain ⟨ns, hi, f2⟩ := f2
  obtain ⟨a, rfl, sq⟩ := ints_at hr2 (RD.same g2.same _ _ rd) hi
  refine ⟨a, ns, rfl, sq, q (maxI ns z) M2 _ H2 f2 (g1.trans g2) ?_ hr2⟩
  cases ns with
  | nil => exact rz
  | cons n r => exact .int _
end
end Vk
set_option linter.unusedVariables false
set_option linter.unusedSimpArgs false
/-! DLV: comprehensions with one `if` -/
namespace Vk
open PySem PySem.Spec PyProof.Rows L2
section
variable {X : Cx} {tg : Expr} {te : TE} {A : DE} {pos : Pos}
theorem d_lc1 {elt it c : Expr} {scope : Scope} {own : List (Str × Nat)} {wi : TI} {g : TG} {tT : TT} {ws : List Nat} {W : DI} {Fg : DG} {T : DT} (hc : X.calm = true) (hN : X.N.Nodup) (hi : Wk X tg it wi W) (ok : BlkOk X.N X.env.scope scope own)
    (hg : ∀ (s : Shared) (H : Hp) (C : Addr) (cl : List (Str × Addr)) (fp : List Addr), Tg (X.blk s H scope (compEnvC scope cl C X.env) fp) tg g ws Fg) (ht : ∀ (s : Shared) (H : Hp) (C : Addr) (cl : List (Str × Addr)) (fp : List Addr), Ts (X.blk s H scope (compEnvC scope cl C X.env) fp) c tT T)
    (he : ∀ (s : Shared) (H : Hp) (C : Addr) (cl : List (Str × Addr)) (fp : List Addr), Ex (X.blk s H scope (compEnvC scope cl C X.env) fp) elt te A) (hw : ∀ i, i ∈ ws → i ∈ own.map (·.2) := by decide) (hs : ∀ x, foldedSetIterable it X.env x = pure x := by intro _; rfl) :
    Ex X (.ListComp elt [⟨tg, it, [c], 0⟩] scope pos) (tLc wi g tT te (own.map (·.2))) (dLc W Fg T A (own.map (·.2))) :=
  d_lc hc hN hi ok hg (fun s H C cl fp => pts_one (ht s H C cl fp).p) (ht X.s_0 X.H_0 0 [] []).r he hw hs
theorem s_setLc1 {i : Nat} {y : Str} {py spos : Pos} {elt it c : Expr} {scope : Scope} {own : List (Str × Nat)} {wi : TI} {g : TG} {tT : TT} {ws : List Nat} {W : DI} {Fg : DG} {T : DT} (hc : X.calm = true) (hN : X.N.Nodup)
    (hsw : swapsWith (.ListComp elt [⟨tg, it, [c], 0⟩] scope pos) (some (.Name y py)) spos.line X.env = pure true) (hi : Wk X tg it wi W) (ok : BlkOk X.N X.env.scope scope own)
    (hg : ∀ (s : Shared) (H : Hp) (C : Addr) (cl : List (Str × Addr)) (fp : List Addr), Tg (X.blk s H scope (compEnvC scope cl C X.env) fp) tg g ws Fg) (ht : ∀ (s : Shared) (H : Hp) (C : Addr) (cl : List (Str × Addr)) (fp : List Addr), Ts (X.blk s H scope (compEnvC scope cl C X.env) fp) c tT T)
    (he : ∀ (s : Shared) (H : Hp) (C : Addr) (cl : List (Str × Addr)) (fp : List Addr), Ex (X.blk s H scope (compEnvC scope cl C X.env) fp) elt te A) (hy : X.N[i]? = some y := by rfl) (hyl : X.env.scope.names.lookup y = some .local := by rfl) (hw : ∀ i, i ∈ ws → i ∈ own.map (·.2) := by decide) (hs : ∀ x, foldedSetIterable it X.env x = pure x := by intro _; rfl) :
    Sm X (.Assign [.Name y py] (.ListComp elt [⟨tg, it, [c], 0⟩] scope pos) spos) (tAsg (tLc wi g tT te (own.map (·.2))) (gName i)) (dSet i (dLc W Fg T A (own.map (·.2)))) :=
  s_setLc hc hN hy hyl hsw hi ok hg (fun s H C cl fp => pts_one (ht s H C cl fp).p) (ht X.s_0 X.H_0 0 [] []).r he hw hs
end
end Vk
namespace Vk
open PySem PySem.Spec PyProof.Rows L2
section
variable {X : Cx}
/-- + of two lists, a list that is changed later -/
@[irreducible] def gAddLM : DO := fun x y M Q => match lsD M x, lsD M y with
  | some i, some j => i.length + j.length ≤ sizeLine ∧ ∀ p, M p = none → Q (.ref p) (mup M p (.lst (i ++ j)))
  | _, _ => False
theorem o_addLM : Op X (binaryOp .Add) rCat gAddLM := by
  refine ⟨op_cat, ?_⟩
  intro S H x y dx dy M Q R rx ry hr f q
  unfold gAddLM at f
  split at f
  · rename_i e1 e2
    obtain ⟨a, vs, rfl, ha, ra⟩ := ls_rd hr rx e1
    obtain ⟨b, ws, rfl, hb, rb⟩ := ls_rd hr ry e2
    refine ⟨_, _, _, _, rfl, rfl, ha, hb, by rw [ra.len, rb.len]; exact f.1, fun p hp => ?_⟩
    obtain ⟨g2, hr2⟩ := hr.newM hp (.lst (ra.app rb))
    exact q _ _ _ _ (f.2 p (hr.fresh hp).2) g2 (.ref p) hr2
  · exact f.elim
end
end Vk
set_option linter.unusedVariables false
set_option linter.unusedSimpArgs false
/-! DLX: defs that raise, try .. except C as e -/
namespace Vk
open PySem PySem.Spec PyProof.Rows L2
/-- what is wished of an error, by its class, its dict, the names and the state -/
abbrev XD := Value → Option Addr → DEnv → MH → Prop
abbrev DSX := XD → DS
abbrev DX := Value → Option Addr → MH → Prop
abbrev DEX := DX → DE
abbrev DFX := DX → DF
def Wof (K : PySem.W.Frag) (S : Addr → Bool) (M : MH) (H : Hp) (xr : XD) (W : WX) : Prop := ∀ cls d env' M' σ' H', xr cls d env' M' → Gr S M H M' H' → RN K (hid S M' H') σ' env' → HR K S M' H' → W cls d σ' H'
theorem Wof.from {K : PySem.W.Frag} {S : Addr → Bool} {M M1 : MH} {H H1 : Hp} {xr : XD} {W : WX} (c : Wof K S M H xr W) (g : Gr S M H M1 H1) : Wof K S M1 H1 xr W := fun cls d e m s h a b => c cls d e m s h a (g.trans b)
def RSX (K : PySem.W.Frag) (W : WX) (t : TS) (F : DSX) : Prop := ∀ (S : Addr → Bool) (σ : L2.St) (H : Hp) (env : DEnv) (M : MH) (D : Ends) (E : DEnds) (xr : XD), RN K (hid S M H) σ env → HR K S M H → F xr E env M → Cnv K S M H E D → Wof K S M H xr W → t D σ H
def REX (K : PySem.W.Frag) (W : WX) (t : TE) (F : DEX) : Prop := ∀ (S : Addr → Bool) (σ : L2.St) (H : Hp) (env : DEnv) (M : MH) (Q : VK) (R : DK) (RX : DX), RN K (hid S M H) σ env → HR K S M H → F RX env M R →
  (∀ d M' v H', R d M' → Gr S M H M' H' → RD K (hid S M' H') v d → HR K S M' H' → Q v H') → (∀ cls d M' H', RX cls d M' → Gr S M H M' H' → HR K S M' H' → W cls d σ H') → t σ H Q
/-- what the place must say of errors -/
abbrev Way (X : Cx) (W : WX) : Prop := Takes X W ∧ PassesOwn (model X.prog X.w) X.A X.env X.xe
structure SmX (X : Cx) (W : WX) (st : Stmt) (t : TS) (F : DSX) : Prop where
  p : Way X W → PS X st t
  r : RSX X.K W t F
structure SsX (X : Cx) (W : WX) (st : List Stmt) (t : TS) (F : DSX) : Prop where
  p : Way X W → PSs X st t
  r : RSX X.K W t F
structure ExX (X : Cx) (W : WX) (e : Expr) (t : TE) (F : DEX) : Prop where
  p : Way X W → PE X e t
  r : REX X.K W t F
/-! ## defs that may raise, wherever no guard stands -/
structure GkX (P : Program) (w : World) (K : PySem.W.Frag) (mg : Str → Option Value) (base : Heap) (k : Nat) (f : Addr) (fd : FuncData) (ps : List Str) (sp : Sp) : Prop where
  len : ∀ vs H Q E, sp vs H Q E → vs.length = ps.length
  go : ∀ {A : Around} {out : List Env} {s : Shared} {H : Hp} {args : Args} {us : List Value} {vs : List V} {Q : VK} {E : XK},
    A.guards = some [] → Room k A → Env0 P w K mg base A out s H → BindsTo s fd args (ps.zip us) → Vals vs us → sp vs H Q E →
      codeAny (model P w) A (.call (.ref f) args) (CR (L2.CX P w) out P w H s Q E) s
theorem okGX {P : Program} {w : World} {K : PySem.W.Frag} {mg : Str → Option Value} {base : Heap} {k : Nat} {f : Addr} {fd : FuncData} {ps : List Str} {sp : Sp} {x qual : Str} {st : Stmt} {N : List Str} (F : L2.Fun K x qual st f fd) (S : FnScope N ps (defScope st))
    (len : ∀ vs H Q E, sp vs H Q E → vs.length = ps.length)
    (bodyOk : ∀ (cd : Value) (A : Around) (out : List Env) (s : Shared) (H : Hp) (vs : List V) (Q : VK) (E : XK),
      (A.deeper (envOfC qual (defScope st) s.heap.objs.size f cd)).guards = some [] →
      Room k (A.deeper (envOfC qual (defScope st) s.heap.objs.size f cd)) → sp vs H Q E →
      ∃ t, PSs (cxOf (L2.CX P w) P w K mg base N qual (defScope st) f cd A out s H E) (defBody st) t ∧
        t { nx := fun _ H' => Q .non H', rt := Q } (L2.start N vs) H) : GkX P w K mg base (k + 1) f fd ps sp := by
  obtain ⟨oc, od, kV, doc, pm, an, cd, ct, sl, rfl, look, code⟩ := F.ex
  refine ⟨len, fun {A out s H args us vs Q E} hg room en bind vals want => ?_⟩
  have n1 := len _ _ _ _ want
  have inK : K.In s.heap := en.mod.kin.keeps (fun b o e => (en.bs b o e).1)
  have noLim : s.heap.NoLimit := en.mod.nolimit.keeps (fun b o e => (en.bs b o e).1)
  have kinds : ∀ y ∈ ps.zip us, (defScope st).names.lookup y.1 = some .local ∨
      ((defScope st).names.lookup y.1 = some .cell ∧ ((cellsFrom (s.heap.objs.size + 1) (defScope st).names []).lookup y.1).isSome = true) := by
    rintro ⟨n, u⟩ hy
    cases S.par n (List.of_mem_zip hy).1 with
    | inl q => exact Or.inl q
    | inr q => exact Or.inr ⟨q, PySem.W.cellsFrom_some _ _ _ (Or.inl q)⟩
  refine codeAny_call_function room.depth (inK _ _ look) rfl S.co S.gen rfl (PySem.W.codeRec_of inK code) (bind _ _ _ _ ?_)
  refine wpAny_newFunctionEnv_cells S.kind kinds (fun env he st1 inCall => ?_)
  cases he
  refine ⟨noLim.keeps inCall.toInCall.keep, codeAny_func ?_⟩
  obtain ⟨t, ht, hq⟩ := bodyOk cd A out s H vs Q E hg (room.deeper _) want
  have inv : Inv (cxOf (L2.CX P w) P w K mg base N qual (defScope st) f cd A out s H E) [] (L2.start N vs) H st1 := inv_start S room.hd en n1 vals inCall
  refine wpAny_mono (ht.run [] st1 _ H _ inv hq) (fun fl s2 h2 => ?_) (fun e s2 h2 => h2)
  have fin : ∀ {σ : L2.St} {H2 : Hp} {v : V} {u : Value}, Inv (cxOf (L2.CX P w) P w K mg base N qual (defScope st) f cd A out s H E) [] σ H2 s2 → RelV v u → Q v H2 → CE out P w H s Q u s2 :=
    fun {σ H2 v u} J r q => ⟨v, H2, J.os, J.bare, J.base, J.hok, r, q⟩
  match fl, h2 with
  | .ret u, ⟨v, σ, H2, J, r, q⟩ => exact fin J r q
  | .next, ⟨σ, H2, J, q⟩ => exact fin (v := V.non) (u := Value.none) J rfl q
  | .brk, ⟨_, _, _, q⟩ => exact q.elim
  | .cont, ⟨_, _, _, q⟩ => exact q.elim
def spDX (K : PySem.W.Frag) (F : DFX) : Sp := fun vs H Q E => ∃ (S : Addr → Bool) (ds : List Dv) (M : MH) (R : DK) (RX : DX), RDs K (hid S M H) vs ds ∧ HR K S M H ∧ F RX ds M R ∧
  (∀ d M' v H', R d M' → Gr S M H M' H' → RD K (hid S M' H') v d → HR K S M' H' → Q v H') ∧ ∀ cls d M' H', RX cls d M' → Gr S M H M' H' → HR K S M' H' → E cls d H'
/-- a def that may raise, by its body -/
theorem dfunX {P : Program} {w : World} {K : PySem.W.Frag} {mg : Str → Option Value} {base : Heap} {k : Nat} {f : Addr} {fd : FuncData} {ps N : List Str} {x qual : Str} {st : Stmt} {F : DFX}
    (Fn : L2.Fun K x qual st f fd) (S : FnScope N ps (defScope st)) (len : ∀ RX ds M R, F RX ds M R → ds.length = ps.length)
    (body : ∀ (cd : Value) (A : Around) (out : List Env) (s : Shared) (H : Hp) (E : XK), (A.deeper (envOfC qual (defScope st) s.heap.objs.size f cd)).guards = some [] → Room k (A.deeper (envOfC qual (defScope st) s.heap.objs.size f cd)) →
      ∃ t G, SsX (cxOf (L2.CX P w) P w K mg base N qual (defScope st) f cd A out s H E) (fun cls d _ H => E cls d H) (defBody st) t G ∧
        ∀ RX ds M (R : DK), F RX ds M R → G (fun cls d _ M' => RX cls d M') { nx := fun _ M' => R .non M', rt := R } (dstart N ds) M) : GkX P w K mg base (k + 1) f fd ps (spDX K F) := by
  refine okGX Fn S (fun vs H Q E h => ?_) (fun cd A out s H vs Q E hg hr h => ?_)
  · obtain ⟨S', ds, M, R, RX, h1, _, h2, _⟩ := h
    rw [h1.len]
    exact len RX ds M R h2
  · obtain ⟨S', ds, M, R, RX, h1, hr', h2, q, qx⟩ := h
    obtain ⟨t, G, hs, hb⟩ := body cd A out s H E hg hr
    refine ⟨t, hs.p ⟨takes_of rfl rfl rfl rfl, passes_of rfl⟩, ?_⟩
    refine hs.r S' (L2.start N vs) H (dstart N ds) M _ _ _ (RN.start N h1) hr' (hb RX ds M R h2) ⟨fun env' M' σ' H' e g rn hr2 => ?_, fun _ _ _ _ e _ _ _ => e.elim, fun _ _ _ _ e _ _ _ => e.elim, fun d M' v H' e g rd hr2 => q d M' v H' e g rd hr2⟩ ?_
    · exact q .non M' .non H' e g .non hr2
    · intro cls d env' M' σ' H' e g rn hr2
      exact qx cls d M' H' e g hr2
section
variable {X : Cx} {W : WX} {a b c e o : Expr} {es : List Expr} {ta tb tc te to_ : TE} {ti : TT} {tt : TA} {n k j : Nat} {A B C O : DE} {I : DT} {G : DA} {pos p apos : Pos} {F : DFX} {x m : Str} {st : Stmt} {sts us : List Stmt} {t u : TS} {T U : DS} {TX UX : DSX} {AX : DEX}
/-! ## statements -/
def dLiftS (T : DS) : DSX := fun _ => T
def dLiftE (A : DE) : DEX := fun _ => A
theorem Sm.toX (h : Sm X st t T) : SmX X W st t (dLiftS T) := ⟨fun _ => h.p, fun S σ H env M D E xr rn hr f c _ => h.r S σ H env M D E rn hr f c⟩
theorem Ss.toX (h : Ss X sts t T) : SsX X W sts t (dLiftS T) := ⟨fun _ => h.p, fun S σ H env M D E xr rn hr f c _ => h.r S σ H env M D E rn hr f c⟩
theorem Ex.toX (h : Ex X e te A) : ExX X W e te (dLiftE A) := ⟨fun _ => h.p, fun S σ H env M Q R RX rn hr f q _ => h.r S σ H env M Q R rn hr f q⟩
def dSeqX (T U : DSX) : DSX := fun xr E env M => T xr { E with nx := U xr E } env M
theorem xs_cons (h1 : SmX X W st t TX) (h2 : SsX X W sts u UX) : SsX X W (st :: sts) (tSeq t u) (dSeqX TX UX) := by
  refine ⟨fun z => pss_cons (h1.p z) (h2.p z), ?_⟩
  intro S σ H env M D E xr rn hr f c w
  refine h1.r S σ H env M _ _ xr rn hr f ⟨fun env' M' σ' H' e g rn' hr' => ?_, c.bk, c.ct, c.rt⟩ w
  exact h2.r S σ' H' env' M' D E xr rn' hr' e (c.from g) (w.from g)
theorem xs_one (h1 : SmX X W st t TX) : SsX X W [st] t TX := ⟨fun z => pss_one (h1.p z), h1.r⟩
theorem xs_nil : SsX X W [] tNext (dLiftS dNext) := ss_nil.toX
def dIfX (I : DT) (T U : DSX) : DSX := fun xr E env M => I env M fun k M1 => if k = true then T xr E env M1 else U xr E env M1
theorem xs_if {sa sb : List Stmt} (h0 : Ts X c ti I) (h1 : SsX X W sa t TX) (h2 : SsX X W sb u UX) : SmX X W (.If c sa sb pos) (tIfS ti t u) (dIfX I TX UX) := by
  refine ⟨fun z => ps_if h0.p (h1.p z) (h2.p z), ?_⟩
  intro S σ H env M D E xr rn hr f c w
  refine h0.r S σ H env M _ _ rn hr f fun k M1 H1 f1 g1 hr1 => ?_
  split at f1
  · rename_i e
    rw [if_pos e]
    exact h1.r S σ H1 env M1 D E xr (rn.same g1.same) hr1 f1 (c.from g1) (w.from g1)
  · rename_i e
    rw [if_neg e]
    exact h2.r S σ H1 env M1 D E xr (rn.same g1.same) hr1 f1 (c.from g1) (w.from g1)
/-- an expression that may raise: its own wish -/
def exX (xr : XD) (env : DEnv) : DX := fun cls d M => xr cls d env M
def dRetX (A : DEX) : DSX := fun xr E env M => A (exX xr env) env M E.rt
def dDropX (A : DEX) : DSX := fun xr E env M => A (exX xr env) env M fun _ M1 => E.nx env M1
def dSetX (i : Nat) (A : DEX) : DSX := fun xr E env M => A (exX xr env) env M fun x M1 => E.nx (env.set i (some x)) M1
theorem Wof.ex {K : PySem.W.Frag} {S : Addr → Bool} {M : MH} {H : Hp} {xr : XD} {σ : L2.St} {env : DEnv} (w : Wof K S M H xr W) (rn : RN K (hid S M H) σ env) : ∀ cls d M' H', exX xr env cls d M' → Gr S M H M' H' → HR K S M' H' → W cls d σ H' :=
  fun cls d M' H' f g hr => w cls d env M' σ H' f g (rn.same g.same) hr
theorem xs_ret (h : ExX X W e te AX) : SmX X W (.Return (some e) pos) (tRet te) (dRetX AX) := by
  refine ⟨fun z => ps_ret (h.p z), ?_⟩
  intro S σ H env M D E xr rn hr f c w
  exact h.r S σ H env M _ _ _ rn hr f (fun d M' v H' e g rd hr' => c.rt d M' v H' e g rd hr') (w.ex rn)
theorem xs_expr (h : ExX X W e te AX) (hs : swapsWith e none pos.line X.env = pure false := by rfl) : SmX X W (.Expr e pos) (tDrop te) (dDropX AX) := by
  refine ⟨fun z => ps_expr (h.p z) hs, ?_⟩
  intro S σ H env M D E xr rn hr f c w
  exact h.r S σ H env M _ _ _ rn hr f (fun d M' v H' e g rd hr' => c.nx env M' σ H' e g (rn.same g.same) hr') (w.ex rn)
theorem xs_set {i : Nat} {pos' : Pos} (hN : X.N.Nodup) (hi : X.N[i]? = some x) (hx : Loc X.env.scope x) (h : ExX X W e te AX) (hs : swapsWith e (some (.Name x pos')) pos.line X.env = pure false := by rfl)
    (hf : X.fn x = true ∨ X.env.scope.names.lookup x = some .local := by first | exact .inl rfl | exact .inr rfl | assumption) : SmX X W (.Assign [.Name x pos'] e pos) (tAsg te (gName i)) (dSetX i AX) := by
  refine ⟨fun z => ps_set (i := i) hN hi hx (h.p z) hs hf, ?_⟩
  intro S σ H env M D E xr rn hr f c w
  refine h.r S σ H env M _ _ _ rn hr f (fun d M' v H' e g rd hr' => ?_) (w.ex rn)
  exact c.nx _ M' _ H' e g ((rn.same g.same).set rd i) hr'
/-! ## raise X('m') -/
def dRaise (C : Addr) : DSX := fun xr _ env M => xr (.ref C) none env M
/-- what the class of an error must be -/
structure ErrC (K : PySem.W.Frag) (mg : Str → Option Value) (x : Str) (C : Addr) : Prop where
  g : mg x = some (.ref C)
  ex : PySem.W.excIn K C [.type "ValueError", .type "Exception", .type "BaseException", .type "object"] "ValueError.__new__" = true
  k : PySem.W.keepIn K (.ref C) = true
  b : PySem.W.subIn K (.ref C) (.type "BaseException") = some true
  t : PySem.W.typeIn K (.ref C) = some (.type "type")
theorem xs_raise {C : Addr} {msg : Str} {jj : Nat} {p p2 p3 : Pos} (hc : X.calm = true) (T : ErrC X.K X.mg x C) (hg : Gl X x) (hdb : (x == ("__debug__" : Str)) = false := by decide) :
    SmX X W (.Raise (some (.Call (.Name x p) [.Constant (.str msg) jj p2] [] p3)) none pos) (fun _ σ H => W (.ref C) none σ H) (dRaise C) := by
  refine ⟨fun z => ps_raise hc z.1 (pmk_own PySem.F.excBase_ValueError T.ex T.g T.k (raises_own T.b T.t) hg hdb), ?_⟩
  intro S σ H env M D E xr rn hr f c w
  exact w _ _ env M σ H f Gr.refl rn hr
/-! ## calls -/
def dCallX (F : DFX) (G : DA) : DEX := fun RX env M Q => G env M fun ds M1 => F RX ds M1 Q
structure DCalX (P : Program) (w : World) (K : PySem.W.Frag) (mg : Str → Option Value) (base : Heap) (x : Str) (k : Nat) (F : DFX) : Prop where
  ex : ∃ (f : Addr) (fd : FuncData) (ps : List Str), GkX P w K mg base k f fd ps (spDX K F) ∧ mg x = some (.ref f) ∧ PySem.W.keepIn K (.ref f) = true ∧ Binds K fd ps []
structure DMethX (P : Program) (w : World) (K : PySem.W.Frag) (mg : Str → Option Value) (base : Heap) (C : Addr) (m : Str) (k : Nat) (F : DFX) : Prop where
  ex : ∃ (f : Addr) (fd : FuncData) (ps : List Str), Cls K C ∧ Meth K C m f ∧ GkX P w K mg base k f fd ps (spDX K F) ∧ Binds K fd ps []
theorem runGX {fd : FuncData} {f : Addr} {ps : List Str} {sp : Sp} {pins : List (Addr × Obj)} {σ : L2.St} {H : Hp} {s : Shared} {Q : VK} {us : List Value} {vs : List V} {E : L2.St → XK} (hg : X.A.guards = some []) (F : GkX X.prog X.w X.K X.mg X.base k f fd ps sp) (room : Room k X.A) (B : Binds X.K fd ps [])
    (hx : PassesAt (L2.CX X.prog X.w) X σ (E σ)) (I : Inv X pins σ H s) (vals : Vals vs us) (want : sp vs H Q (E σ)) : wpAny (model X.prog X.w) X.A (call (.ref f) us) (EP X pins σ Q) X.xe s := by
  have n1 : us.length = ps.length := by
    rw [← vals.length]
    exact F.len _ _ _ _ want
  have bind := B s us I.kIn (by rw [List.append_nil]; exact n1)
  rw [List.append_nil] at bind
  refine wpAny_call (codeAny_mono (F.go (args := ⟨us, []⟩) hg room I.env0 bind vals want) (fun r s2 h2 => ?_))
  match r, h2 with
  | .error e, h => exact hx pins H s e s2 I h
  | .ok (.ret u), h => exact I.after h
  | .ok .next, h => exact h.elim
  | .ok .brk, h => exact h.elim
  | .ok .cont, h => exact h.elim
theorem REX.call {K : PySem.W.Frag} (h : RA K tt n G) : REX K W (tCallS (spDX K F) (WE W) tt) (dCallX F G) := by
  intro S σ H env M Q R RX rn hr f q qx
  refine h S σ H env M _ _ rn hr f fun ds M1 vs H1 f1 l1 g1 r1 hr1 => ?_
  exact ⟨S, ds, M1, R, RX, r1, hr1, f1, fun d M' v H' h k rd hr' => q d M' v H' h (g1.trans k) rd hr', fun cls d M' H' h k hr' => qx cls d M' H' h (g1.trans k) hr'⟩
theorem dx_call (hg : X.A.guards = some []) (C : DCalX X.prog X.w X.K X.mg X.base x k F) (hr : Room j X.A) (gl : Gl X x) (h : As X (e :: es) tt n G) (hk : k ≤ j := by decide) (dbg : (x == ("__debug__" : Str)) = false := by decide)
    (st : starEach (e :: es) X.env = (false, eval e X.env) :: starEach es X.env := by rfl) (pl : (backTo pos (starEach es X.env)).any (·.1) = false := by rfl) : ExX X W (.Call (.Name x p) (e :: es) [] pos) (tCallS (spDX X.K F) (WE W) tt) (dCallX F G) := by
  obtain ⟨f, fd, ps, h1, h2, h3, h4⟩ := C.ex
  refine ⟨fun z => ⟨fun pins s σ H Q I h0 => ?_⟩, REX.call h.r⟩
  refine wpAny_Call_Name_kw (ld_glob I gl h2 ?_ dbg)
  refine PySem.W.callWith_K (h₀ := X.base) I.ok.mod.kin h3 (thn (h.p.run pos pins s σ H _ I h0) fun us s1 ⟨vs, H1, I1, r, q⟩ => ⟨I1.kIn, ?_⟩) st pl
  exact runGX hg h1 (hr.mono hk) h4 (passAt z.1 σ) I1 r q
def tMethS (C : Addr) (m : Str) (sp : Sp) (E : L2.St → XK) (ta : TE) (t : TA) : TE := fun σ H Q => ta σ H fun x H1 => ∃ a dx fs, x = .ref a ∧ H1 a = some (.ins C dx fs) ∧ fs.lookup m = none ∧ t σ H1 fun vs H2 => sp (x :: vs) H2 Q (E σ)
def dMethX (C : Addr) (m : Str) (F : DFX) (O : DE) (G : DA) : DEX := fun RX env M Q => O env M fun x M1 => match x with
  | .ref p => match M1 p with
    | some (.ins C' _ fs) => (C' = C ∧ fs.lookup m = none) ∧ G env M1 fun ds M2 => F RX (.ref p :: ds) M2 Q
    | _ => False
  | _ => False
theorem REX.methO {K : PySem.W.Frag} {C : Addr} (h1 : RE K to_ O) (h2 : RA K tt n G) : REX K W (tMethS C m (spDX K F) (WE W) to_ tt) (dMethX C m F O G) := by
  intro S σ H env M Q R RX rn hr f0 q qx
  refine h1 S σ H env M _ _ rn hr f0 fun d M1 v H1 f1 g1 r1 hr1 => ?_
  split at f1
  · split at f1
    · rename_i e1
      obtain ⟨⟨rfl, ln⟩, f1⟩ := f1
      cases r1
      obtain ⟨u, z1, z2⟩ := hr1.obj _ _ e1
      cases z2 with
      | ins r =>
        refine ⟨_, _, _, rfl, z1, r.lookN ln, h2 S σ H1 env M1 _ _ (rn.same g1.same) hr1 f1 fun ds M2 vs H2 f2 l2 g2 rs hr2 => ?_⟩
        exact ⟨S, _, M2, R, RX, .cons (.ref _) rs, hr2, f2, fun d M' v H' h k rd hr' => q d M' v H' h ((g1.trans g2).trans k) rd hr', fun cls d M' H' h k hr' => qx cls d M' H' h ((g1.trans g2).trans k) hr'⟩
    · exact f1.elim
  · exact f1.elim
theorem dx_meth {C : Addr} {pl : Sem Bool} (hg : X.A.guards = some []) (c : DMethX X.prog X.w X.K X.mg X.base C m k F) (hr : Room j X.A) (h1 : Ex X o to_ O) (h2 : As X (e :: es) tt n G) (hk : k ≤ j := by decide)
    (st : starEach (e :: es) X.env = (false, eval e X.env) :: starEach es X.env := by rfl) (pb : (backTo pos (starEach es X.env)).any (·.1) = false := by rfl)
    (ht : eval (.Call (.Attribute o m apos) (e :: es) [] pos) X.env = (do
        let ov ← eval o X.env
        standAt apos.atName
        let fm ← holding [ov] (getMethod ov m pl)
        callWith pos fm.1 fm.2 (backTo pos (starEach (e :: es) X.env)) (backToKw pos (keywordEach [] X.env))) := by rfl) :
    ExX X W (.Call (.Attribute o m apos) (e :: es) [] pos) (tMethS C m (spDX X.K F) (WE W) to_ tt) (dMethX C m F O G) := by
  obtain ⟨f, fd, ps, cl, mt, g, b⟩ := c.ex
  refine ⟨fun z => ⟨fun pins s σ H Q I h => ?_⟩, REX.methO h1.r h2.r⟩
  refine PySem.W.methodCall_KW (pl := pl) (thn (h1.p.run pins s σ H _ I h) ?_) ht
  rintro u s1 ⟨v, H1, I1, rv, a, dx, fs, ev, ea, lo, q⟩
  cases ev
  cases (show u = Value.ref a from rv)
  refine getmeth_ok I1 ea cl mt lo ?_
  refine PySem.W.callWith_K (first := [.ref a]) (h₀ := X.base) I.ok.mod.kin mt.kp (thn (h2.p.run pos pins s1 σ H1 _ I1 q) ?_) st pb
  rintro us s2 ⟨vs, H2, I2, r, q2⟩
  exact ⟨I2.kIn, runGX (us := .ref a :: us) (vs := .ref a :: vs) hg g (hr.mono hk) b (passAt z.1 σ) I2 (.cons rfl r) q2⟩
theorem dx_meth0 {C : Addr} {pl : Sem Bool} (hg : X.A.guards = some []) (c : DMethX X.prog X.w X.K X.mg X.base C m k F) (hr : Room j X.A) (h1 : Ex X o to_ O) (hk : k ≤ j := by decide)
    (ht : eval (.Call (.Attribute o m apos) [] [] pos) X.env = (do
        let ov ← eval o X.env
        standAt apos.atName
        let fm ← holding [ov] (getMethod ov m pl)
        callWith pos fm.1 fm.2 (backTo pos (starEach [] X.env)) (backToKw pos (keywordEach [] X.env))) := by rfl) :
    ExX X W (.Call (.Attribute o m apos) [] [] pos) (tMethS C m (spDX X.K F) (WE W) to_ tNil) (dMethX C m F O dANil) := by
  obtain ⟨f, fd, ps, cl, mt, g, b⟩ := c.ex
  refine ⟨fun z => ⟨fun pins s σ H Q I h => ?_⟩, REX.methO h1.r a_nil.r⟩
  refine PySem.W.methodCall_KW (pl := pl) (thn (h1.p.run pins s σ H _ I h) ?_) ht
  rintro u s1 ⟨v, H1, I1, rv, a, dx, fs, ev, ea, lo, q⟩
  cases ev
  cases (show u = Value.ref a from rv)
  refine getmeth_ok I1 ea cl mt lo ?_
  exact PySem.W.callWith_K0 (first := [.ref a]) I1.kIn mt.kp (runGX (us := [.ref a]) (vs := [.ref a]) hg g (hr.mono hk) b (passAt z.1 σ) I1 (.cons rfl .nil) q)
/-! ## loops -/
@[irreducible] def dForX (W : DI) (g : DG) (body : DSX) : DSX := fun xr E env M => W env M fun items inv M1 => ∃ I : Nat → DEnv → MH → Prop, I 0 env M1 ∧ (∀ i env M, I i env M → inv M) ∧
  (∀ i d env M, items[i]? = some d → I i env M → g d env M fun env1 M1 => body xr { E with nx := I (i + 1), ct := I (i + 1), bk := E.nx } env1 M1) ∧ ∀ env M, I items.length env M → E.nx env M
theorem xs_for {tg it : Expr} {body : List Stmt} {wi : TI} {g : TG} {ws : List Nat} {Wi : DI} {Fg : DG} (hc : X.calm = true) (hi : Wk X tg it wi Wi) (hg : Tg X tg g ws Fg) (hb : SsX X W body t TX)
    (hs : ∀ x, foldedSetIterable it X.env x = pure x := by intro _; rfl) : SmX X W (.For tg it body [] pos) (tFor wi g t) (dForX Wi Fg TX) := by
  refine ⟨fun z => ps_for z.2 hc hi.p hg.p (hb.p z) hs, ?_⟩
  intro S σ H env M D E xr rn hr f c w
  unfold dForX at f
  refine hi.r S σ H env M _ _ rn hr f fun items inv M1 J H1 f1 g1 hr1 wk => ?_
  obtain ⟨I, h0, hin, step, fin⟩ := f1
  refine ⟨fun i m σ' H' => ∃ env' M', I i env' M' ∧ m = items.length - i ∧ i ≤ items.length ∧ Gr S M1 H1 M' H' ∧ RN X.K (hid S M' H') σ' env' ∧ HR X.K S M' H', ⟨_, env, M1, h0, rfl, Nat.zero_le _, Gr.refl, rn.same g1.same, hr1⟩, ?_⟩
  rintro i m σ2 H2 ⟨env2, M2, h2, rfl, hi2, g2, rn2, hr2⟩
  rcases Nat.lt_or_eq_of_le hi2 with hlt | heq
  · refine .inr ?_
    have hd : items[i]? = some items[i] := List.getElem?_eq_getElem hlt
    obtain ⟨w1, w2⟩ := wk.go i _ hd S M2 H2 g2.same hr2 (hin _ _ _ h2)
    refine ⟨w1, fun σ' H' => ∃ env' M', I (i + 1) env' M' ∧ Gr S M1 H1 M' H' ∧ RN X.K (hid S M' H') σ' env' ∧ HR X.K S M' H', fun σ' H' ⟨e', M', y1, y2, y3, y4⟩ => ⟨items.length - (i + 1), by omega, e', M', y1, rfl, hlt, y2, y3, y4⟩, fun x H3 hy => ?_⟩
    obtain ⟨g3, hr3, rd⟩ := w2 x H3 hy
    refine hg.r S σ2 H3 x _ env2 M2 _ _ rd (rn2.same g3.same) hr3 (step i _ env2 M2 hd h2) fun env4 M4 σ4 H4 f4 g4 rn4 hr4 _ => ?_
    have gg := (g2.trans g3).trans g4
    exact hb.r S σ4 H4 env4 M4 _ _ xr rn4 hr4 f4 ⟨fun e' M' σ' H' y z rn' hr' => ⟨e', M', y, gg.trans z, rn', hr'⟩, fun e' M' σ' H' y z rn' hr' => c.nx e' M' σ' H' y (g1.trans (gg.trans z)) rn' hr',
      fun e' M' σ' H' y z rn' hr' => ⟨e', M', y, gg.trans z, rn', hr'⟩, fun d M' v H' y z rd' hr' => c.rt d M' v H' y (g1.trans (gg.trans z)) rd' hr'⟩ (w.from (g1.trans gg))
  · subst heq
    exact .inl ⟨wk.stop S M2 H2 g2.same hr2 (hin _ _ _ h2), c.nx env2 M2 σ2 H2 (fin _ _ h2) (g1.trans g2) rn2 hr2⟩
def dWhileX (I : DT) (T : DSX) : DSX := fun xr E env M => ∃ W : Nat → DEnv → MH → Prop, (∃ m, W m env M) ∧ ∀ m env M, W m env M → I env M fun b M1 =>
  if b = true then T xr { E with nx := fun e' M' => ∃ m', m' < m ∧ W m' e' M', ct := fun e' M' => ∃ m', m' < m ∧ W m' e' M', bk := E.nx } env M1 else E.nx env M1
theorem xs_while {body : List Stmt} (h0 : Ts X c ti I) (hb : SsX X W body t TX) : SmX X W (.While c body [] pos) (tWhile ti t) (dWhileX I TX) := by
  refine ⟨fun z => ps_while z.2 h0.p (hb.p z), ?_⟩
  intro S σ H env M D E xr rn hr f c w
  obtain ⟨W', ⟨m0, w0⟩, turn⟩ := f
  refine ⟨fun m σ' H' => ∃ env' M', W' m env' M' ∧ Gr S M H M' H' ∧ RN X.K (hid S M' H') σ' env' ∧ HR X.K S M' H', ⟨m0, env, M, w0, Gr.refl, rn, hr⟩, ?_⟩
  rintro m σ1 H1 ⟨env1, M1, w1, g1, rn1, hr1⟩
  refine h0.r S σ1 H1 env1 M1 _ _ rn1 hr1 (turn m env1 M1 w1) fun b M2 H2 f2 g2 hr2 => ?_
  split at f2
  · rename_i e
    rw [if_pos e]
    refine ⟨fun σ' H' => ∃ env' M', (∃ m', m' < m ∧ W' m' env' M') ∧ Gr S M H M' H' ∧ RN X.K (hid S M' H') σ' env' ∧ HR X.K S M' H', fun σ' H' ⟨e', M', ⟨m', l, w'⟩, y2, y3, y4⟩ => ⟨m', l, e', M', w', y2, y3, y4⟩, ?_⟩
    have gg := g1.trans g2
    exact hb.r S σ1 H2 env1 M2 _ _ xr (rn1.same g2.same) hr2 f2 ⟨fun e' M' σ' H' y z rn' hr' => ⟨e', M', y, gg.trans z, rn', hr'⟩, fun e' M' σ' H' y z rn' hr' => c.nx e' M' σ' H' y (gg.trans z) rn' hr',
      fun e' M' σ' H' y z rn' hr' => ⟨e', M', y, gg.trans z, rn', hr'⟩, fun d M' v H' y z rd' hr' => c.rt d M' v H' y (gg.trans z) rd' hr'⟩ (w.from gg)
  · rename_i e
    rw [if_neg e]
    exact c.nx env1 M2 σ1 H2 f2 (g1.trans g2) (rn1.same g2.same) hr2
/-! ## try: .. except C as n: .. -/
theorem RN.gone {K : PySem.W.Frag} {G : Hp} {σ : L2.St} {env : DEnv} (z : RN K G σ env) (v : Nat) : RN K G (σ.set v none) (env.set v none) := by
  refine ⟨by rw [List.length_set, List.length_set, z.len], fun j e hj => ?_⟩
  by_cases c : v = j
  · subst c
    by_cases l : v < env.length
    · rw [List.getElem?_set_self l] at hj
      cases hj
    · rw [List.getElem?_eq_none (by simpa using l)] at hj
      cases hj
  · rw [List.getElem?_set_ne c] at hj
    rw [List.getElem?_set_ne c]
    exact z.at_ j e hj
abbrev DSu := Addr → Value → Option Addr → DS
def endsG (E : DEnds) (i : Nat) : DEnds := { nx := fun e m => E.nx (e.set i none) m, rt := E.rt, bk := fun e m => E.bk (e.set i none) m, ct := fun e m => E.ct (e.set i none) m }
def dTryAs (exm : Value → Option Bool) (i : Nat) (T : DSX) (U : DSu) : DSX := fun xr E env M => T (fun cls d env' M' => ∃ b, exm cls = some b ∧ (b = true → ∀ a, M' a = none → U a cls d (endsG E i) (env'.set i (some (.ref a))) M') ∧ (b = false → xr cls d env' M')) E env M
/-- what a body asks, whatever reading it has -/
def tAny (P : TS → Prop) : TS := fun D σ H => ∃ t, P t ∧ t D σ H
theorem xs_tryAs {c : Value} {i : Nat} {nm : Str} {body suite : List Stmt} {b₀ : Stmt} {np pos pos' : Pos} (U : DSu) (hs : X.stack = X.env :: X.outer) (hf : X.env.frame = some X.env.locals) (hN : X.N.Nodup) (hi : X.N[i]? = some nm) (hln : X.env.kindOf nm = some .local) (hc : Names X x c)
    (hb : ∀ (W : WX) (pn : List (Addr × Obj)) (xe : Value → Shared → Prop), ∃ t, SsX (X.tr pn xe) W body t TX)
    (hsu : ∀ (a : Addr) (oe : Obj) (cls : Value) (d : Option Addr) (pn : List (Addr × Obj)), Zc cls d oe → (∃ vs, oe.data = .fields vs) → ∃ t, Ss (X.suite a ((a, oe) :: pn)) (b₀ :: suite) t (U a cls d)) :
    ∃ t, SmX X W (.Try body [.ExceptHandler (some (.Name x np)) (some nm) (b₀ :: suite) pos'] [] [] pos) t (dTryAs (fun cls => PySem.W.exmOne X.K cls c) i TX U) := by
  have qb : ∀ (W : WX), ∃ tb : TS, (∀ pn xe, Way (X.tr pn xe) W → PSs (X.tr pn xe) body tb) ∧ RSX X.K W tb TX := fun W => by
    refine ⟨fun D σ H => ∀ pn xe, ∃ t, (Way (X.tr pn xe) W → PSs (X.tr pn xe) body t) ∧ t D σ H, fun pn xe way => ⟨fun pins s σ H D I h => ?_⟩, ?_⟩
    · obtain ⟨t, p, h⟩ := h pn xe
      exact (p way).run pins s σ H D I h
    · intro S σ H env M D E xr rn hr f c w pn xe
      obtain ⟨t, ht⟩ := hb W pn xe
      exact ⟨t, ht.p, ht.r S σ H env M D E xr rn hr f c w⟩
  have qs : ∀ (a : Addr) (cls : Value) (d : Option Addr), ∃ ts : TS, (∀ oe pn, Zc cls d oe → (∃ vs, oe.data = .fields vs) → PSs (X.suite a ((a, oe) :: pn)) (b₀ :: suite) ts) ∧ RS X.K ts (U a cls d) := fun a cls d => by
    refine ⟨fun D σ H => ∀ oe pn, Zc cls d oe → (∃ vs, oe.data = .fields vs) → ∃ t, PSs (X.suite a ((a, oe) :: pn)) (b₀ :: suite) t ∧ t D σ H, fun oe pn hz hd => ⟨fun pins s σ H D I h => ?_⟩, ?_⟩
    · obtain ⟨t, p, h⟩ := h oe pn hz hd
      exact p.run pins s σ H D I h
    · intro S σ H env M D E rn hr f c oe pn hz hd
      obtain ⟨t, ht⟩ := hsu a oe cls d pn hz hd
      exact ⟨t, ht.p, ht.r S σ H env M D E rn hr f c⟩
  have ts : ∃ ts : Addr → Value → Option Addr → TS, ∀ a cls d, (∀ oe pn, Zc cls d oe → (∃ vs, oe.data = .fields vs) → PSs (X.suite a ((a, oe) :: pn)) (b₀ :: suite) (ts a cls d)) ∧ RS X.K (ts a cls d) (U a cls d) :=
    ⟨fun a cls d => Classical.choose (qs a cls d), fun a cls d => Classical.choose_spec (qs a cls d)⟩
  have tb : ∃ tb : WX → TS, ∀ W, (∀ pn xe, Way (X.tr pn xe) W → PSs (X.tr pn xe) body (tb W)) ∧ RSX X.K W (tb W) TX := ⟨fun W => Classical.choose (qb W), fun W => Classical.choose_spec (qb W)⟩
  obtain ⟨ts, hts⟩ := ts
  obtain ⟨tb, htb⟩ := tb
  refine ⟨fun D σ H => tb (wAs X.K c i ts W D) D σ H, fun z => ps_try_as hs hf hN hi hln hc z.1 (fun W pn xe tk' po => (htb W).1 pn xe ⟨tk', po⟩) (fun a oe cls d pn hz hd => (hts a cls d).1 oe pn hz hd), ?_⟩
  intro S σ H env M D E xr rn hr f c' w
  refine (htb (wAs X.K c i ts W D)).2 S σ H env M D E _ rn hr f c' ?_
  rintro cls d env' M' σ' H' ⟨b, e, yes, no⟩ g rn' hr'
  refine ⟨b, e, fun eb a ha => ?_, fun eb => w cls d env' M' σ' H' (no eb) g rn' hr'⟩
  have ma := (hr'.fresh ha).2
  refine (hts a cls d).2 S _ H' _ M' _ _ (rn'.set (RD.ref a) i) hr' (yes eb a ma) ⟨fun e m s h y1 y2 y3 y4 => ?_, fun e m s h y1 y2 y3 y4 => ?_, fun e m s h y1 y2 y3 y4 => ?_, fun d m v h y1 y2 y3 y4 => ?_⟩
  · exact c'.nx _ m _ h y1 (g.trans y2) (y3.gone i) y4
  · exact c'.bk _ m _ h y1 (g.trans y2) (y3.gone i) y4
  · exact c'.ct _ m _ h y1 (g.trans y2) (y3.gone i) y4
  · exact c'.rt d m v h y1 (g.trans y2) y3 y4
/-- a try whose body's errors are all caught, in a def that lets none out -/
theorem Sm.ofX (h : SmX X.nox (fun _ _ _ _ => False) st t TX) : Sm X.nox st t (TX fun _ _ _ _ => False) :=
  ⟨h.p ⟨takes0, PassesOwn.never⟩, fun S σ H env M D E rn hr f c => h.r S σ H env M D E _ rn hr f c fun _ _ _ _ _ _ z => z.elim⟩
theorem Sm.ofXe (h : ∃ t, SmX X.nox (fun _ _ _ _ => False) st t TX) : Sm X.nox st (Classical.choose h) (TX fun _ _ _ _ => False) := Sm.ofX (Classical.choose_spec h)
theorem kit_self {K : PySem.W.Frag} {D : Addr} : PySem.W.kitOne K (.ref D) (.ref D) = some true := by
  unfold PySem.W.kitOne
  rw [if_pos (beq_self_eq_true _)]
theorem kit_not {K : PySem.W.Frag} {D C : Addr} {b : Bool} (h0 : ¬ D = C) (h1 : PySem.W.hasDictIn K C = true) (h2 : PySem.W.typeIn K (.ref C) = some (.type "type")) (h3 : PySem.W.subIn K (.ref D) (.ref C) = some b) : PySem.W.kitOne K (.ref D) (.ref C) = some b := by
  have ne : ¬ (Value.ref D == Value.ref C) = true := fun z => by
    have e := eq_of_beq z
    cases e
    exact h0 rfl
  obtain ⟨cd, hc, _⟩ := PySem.W.any_some h1
  unfold PySem.W.kitOne
  rw [if_neg ne]
  show (if ((PySem.W.clsIn K C).isSome && PySem.W.typeIn K (.ref C) == some (.type "type")) = true then PySem.W.subIn K (.ref D) (.ref C) else none) = some b
  rw [if_pos (by rw [hc, h2] <;> rfl), h3]
theorem kit_type {K : PySem.W.Frag} {D : Addr} {T : String} {b : Bool} (h : PySem.W.kitMeta T = true) (h3 : PySem.W.subIn K (.ref D) (.type T) = some b) : PySem.W.kitOne K (.ref D) (.type T) = some b := by
  have ne : ¬ (Value.ref D == Value.type T) = true := fun z => by
    have e := eq_of_beq z
    cases e
  unfold PySem.W.kitOne
  rw [if_neg ne]
  show (if PySem.W.kitMeta T = true then PySem.W.subIn K (.ref D) (.type T) else none) = some b
  rw [if_pos h, h3]
theorem sub_ne {K : PySem.W.Frag} {D C : Addr} (h0 : PySem.W.subIn K (.ref D) (.ref D) = some true) (h3 : PySem.W.subIn K (.ref D) (.ref C) = some false) : ¬ D = C := fun e => by
  subst e
  rw [h0] at h3
  cases h3
/-- isinstance of the error that is held -/
def rIsEx (K : PySem.W.Frag) (a : Addr) (cls : Value) (d : Option Addr) : List V → Hp → VK → Prop := fun xs H Q => ∃ D, cls = .ref D ∧ d = none ∧ ExcC K D ∧ rIsE K D a xs H Q
theorem call_isEx {X : Cx} {a : Addr} {cls : Value} {d : Option Addr} {oe : Obj} {pn : List (Addr × Obj)} (hz : Zc cls d oe) (hf : ∃ vs, oe.data = .fields vs) : CallR (X.suite a ((a, oe) :: pn)) (.builtin "isinstance") (rIsEx X.K a cls d) := by
  intro pins s σ H xs us Q I r h
  obtain ⟨D, rfl, rfl, hC, h⟩ := h
  exact call_isE hC hz hf pins s σ H xs us Q I r h
/-- of an own class, of a built-in one -/
def gIsEx (K : PySem.W.Frag) (a : Addr) (cls : Value) (d : Option Addr) : DL := fun ds M Q => ∃ D c cv b, ds = [.ref a, c] ∧ ((∃ C, c = .ref C ∧ cv = .ref C) ∨ ∃ T, c = .ty T ∧ cv = .type T) ∧ cls = .ref D ∧ d = none ∧ ExcC K D ∧ PySem.W.kitOne K (.ref D) cv = some b ∧ Q (.bl b) M
theorem k_isEx {a : Addr} {cls : Value} {d : Option Addr} {oe : Obj} {pn : List (Addr × Obj)} (hz : Zc cls d oe) (hf : ∃ vs, oe.data = .fields vs) : Cb (X.suite a ((a, oe) :: pn)) (.builtin "isinstance") (rIsEx X.K a cls d) (gIsEx X.K a cls d) := by
  refine ⟨call_isEx hz hf, ?_⟩
  intro S H vs ds M Q R rs hr f q
  obtain ⟨D, c, cv, b, rfl, hc, h1, h2, h3, h4, f⟩ := f
  obtain ⟨v, w', rfl, rd, rd2⟩ := rs.two
  cases rd
  refine ⟨D, h1, h2, h3, w', cv, b, rfl, ?_, h4, q _ M _ H f Gr.refl (.bl b) hr⟩
  rcases hc with ⟨C, rfl, rfl⟩ | ⟨T, rfl, rfl⟩
  · cases rd2
    exact fun u h => h
  · cases rd2
    exact fun u h => h
end
end Vk
set_option linter.unusedVariables false
set_option linter.unusedSimpArgs false
/-! DLY: more of lists and dicts: displays, o.f op= e, d[k] op= e, extend by a list that changes, pop(i), == of lists that change, repr of lists -/
namespace Vk
open PySem PySem.Spec PyProof.Rows L2
section
variable {X : Cx} {K : PySem.W.Frag} {o e a : Expr} {es : List Expr} {to_ ta ti te : TE} {tt : TA} {O A I : DE} {G : DA} {f x : Str} {p pos apos tpos cpos : Pos} {op : Operator} {fi : Int → Int → Int}
/-! ### xs.extend(ys), whatever list ys is -/
def gExtA : Addr → List Dv → List Dv → MH → DK → Prop := fun p xs ds M Q => match ds with
  | [y] => match lsD M y with
    | some ys => xs.length + ys.length ≤ sizeLine ∧ Q .non (mup M p (.lst (xs ++ ys)))
    | none => False
  | _ => False
theorem mt_extA : RMt K rExtend gExtA := by
  intro S H p vs xs ds M Q R e rs hr f q
  unfold gExtA at f
  split at f
  · split at f
    · rename_i ys e2
      obtain ⟨v, rfl, rd⟩ := rs.one
      obtain ⟨u, z1, z2⟩ := hr.obj _ _ e
      obtain ⟨b, ws, rfl, hb, rb⟩ := ls_rd hr rd e2
      cases z2 with
      | lst ra =>
        obtain ⟨g, hr'⟩ := hr.put (o := .lst (_ ++ _)) e (.lst (ra.app rb))
        exact ⟨p, _, _, _, rfl, rfl, z1, hb, by rw [ra.len, rb.len]; exact f.1, q _ _ _ _ f.2 g .non hr'⟩
    · exact f.elim
  · exact f.elim
/-! ### xs.pop(0) -/
theorem RDs.tail {G : Hp} : ∀ {vs : List V} {ds : List Dv}, RDs K G vs ds → RDs K G vs.tail ds.tail
  | _, _, .nil => .nil
  | _, _, .cons _ b => b
def gPop0 : Addr → List Dv → List Dv → MH → DK → Prop := fun p xs ds M Q => match ds, xs with
  | [.int i], y :: r => i = 0 ∧ xs.length ≤ sizeLine ∧ Q y (mup M p (.lst r))
  | _, _ => False
theorem mt_pop0 : RMt K rPopAt gPop0 := by
  intro S H p vs xs ds M Q R e rs hr f q
  unfold gPop0 at f
  split at f
  · rename_i i y r
    obtain ⟨rfl, hl, f⟩ := f
    obtain ⟨v, rfl, rd⟩ := rs.one
    cases rd
    obtain ⟨u, z1, z2⟩ := hr.obj _ _ e
    cases z2 with
    | lst ra =>
      cases ra with
      | cons a b =>
        rename_i w ws
        have sz : (sizeLine : Nat) = 16777216 := by decide +kernel
        obtain ⟨g, hr'⟩ := hr.put (o := .lst ws) e (.lst b)
        refine ⟨p, w :: ws, 0, 0, w, rfl, rfl, z1, by decide, by decide, ?_, rfl, q _ _ _ _ f g (RD.same g.same _ _ a) hr'⟩
        unfold PySem.seqIndex?
        simp
  · exact f.elim
/-! ### list(x), a list that changes -/
def gLstOfM : DL := fun ds M Q => match ds with
  | [.scr ns] => ∀ p, M p = none → Q (.ref p) (mup M p (.lst (ns.map .int)))
  | [.tup xs] => ∀ p, M p = none → Q (.ref p) (mup M p (.lst xs))
  | [d] => match lsD M d with
    | some xs => ∀ p, M p = none → Q (.ref p) (mup M p (.lst xs))
    | none => False
  | _ => False
theorem k_listM (hK : X.K = K := by rfl) : Cb X (.type "list") (rLstA K) gLstOfM := by
  subst hK
  refine ⟨call_list_of, ?_⟩
  intro S H vs ds M Q R rs hr f q
  unfold gLstOfM at f
  split at f
  · obtain ⟨v, rfl, rd⟩ := rs.one
    cases rd with
    | scr ha =>
      refine ⟨_, _, rfl, .inl (sqL_hid ha), fun l hl => ?_⟩
      obtain ⟨g, hr'⟩ := hr.newM hl (.lst (RDs.ints (K := X.K) (G := hid S M H) _))
      exact q _ _ _ _ (f l (hr.fresh hl).2) g (.ref l) hr'
  · obtain ⟨v, rfl, rd⟩ := rs.one
    cases rd with
    | tup ha ra =>
      refine ⟨_, _, rfl, .inr (sqT_hid ha), fun l hl => ?_⟩
      obtain ⟨g, hr'⟩ := hr.newM hl (.lst ra)
      exact q _ _ _ _ (f l (hr.fresh hl).2) g (.ref l) hr'
  · split at f
    · rename_i e
      obtain ⟨v, rfl, rd⟩ := rs.one
      obtain ⟨a, vs, rfl, ha, ra⟩ := ls_rd hr rd e
      refine ⟨_, _, rfl, .inl (SqL.of ha), fun l hl => ?_⟩
      obtain ⟨g, hr'⟩ := hr.newM hl (.lst ra)
      exact q _ _ _ _ (f l (hr.fresh hl).2) g (.ref l) hr'
    · exact f.elim
  · exact f.elim
/-! ### ==, kept folded -/
@[irreducible] def gEqI : DO := gEq (fun b => b)
@[irreducible] def gNeI : DO := gEq (fun b => !b)
theorem k_eqI (hu : X.A.units + 64 < cLine) (hK : X.K = K := by rfl) : Op X (compareOp .Eq) (rEqA K) gEqI := by unfold gEqI; exact k_eq hu hK
theorem k_neI (hu : X.A.units + 64 < cLine) (hK : X.K = K := by rfl) : Op X (compareOp .NotEq) (rNeA K) gNeI := by unfold gNeI; exact k_ne hu hK
/-! ### == of lists, whatever list -/
@[irreducible] def gEqL (k : Bool → Bool) : DO := fun x y M Q => match lsD M x, lsD M y with
  | some i, some j => shp (.lst i) = true ∧ shp (.lst j) = true ∧ Q (.bl (k (PyData.eqv (toP (.lst i)) (toP (.lst j))))) M
  | _, _ => False
theorem ls_dp {S : Addr → Bool} {M : MH} {H : Hp} {v : V} {d : Dv} {ds : List Dv} (hr : HR K S M H) (h : RD K (hid S M H) v d) (e : lsD M d = some ds) (ok : datD (.lst ds) = true) : Dp K H v (toP (.lst ds)) := by
  obtain ⟨a, vs, rfl, ha, ra⟩ := ls_rd hr h e
  exact .lst (SqL.of ha) (RDs.dp ds _ (by simpa [datD] using ok) ra)
theorem o_eqL (hu : X.A.units + 64 < cLine) : Op X (compareOp .Eq) (rEqD X.K) (gEqL fun b => b) := by
  refine ⟨op_eqD hu, ?_⟩
  intro S H x y dx dy M Q R rx ry hr f q
  unfold gEqL at f
  split at f
  · rename_i e1 e2
    obtain ⟨h1, h2, f⟩ := f
    unfold shp at h1 h2
    rw [Bool.and_eq_true] at h1 h2
    exact ⟨_, _, ls_dp hr rx e1 h1.1, ls_dp hr ry e2 h2.1, h1.2, h2.2, q _ M _ H f Gr.refl (.bl _) hr⟩
  · exact f.elim
theorem o_neL (hu : X.A.units + 64 < cLine) : Op X (compareOp .NotEq) (rNeD X.K) (gEqL fun b => !b) := by
  refine ⟨op_neD hu, ?_⟩
  intro S H x y dx dy M Q R rx ry hr f q
  unfold gEqL at f
  split at f
  · rename_i e1 e2
    obtain ⟨h1, h2, f⟩ := f
    unfold shp at h1 h2
    rw [Bool.and_eq_true] at h1 h2
    exact ⟨_, _, ls_dp hr rx e1 h1.1, ls_dp hr ry e2 h2.1, h1.2, h2.2, q _ M _ H f Gr.refl (.bl _) hr⟩
  · exact f.elim
/-! ### o.f op= e -/
def dFldAug (K : PySem.W.Frag) (f : Str) (fi : Int → Int → Int) (O A : DE) : DS := fun E env M => O env M fun x M1 => match x with
  | .ref p => match M1 p with
    | some (.ins C dx fs) => match fs.lookup f with
      | some (.int i) => FldOk K C f ∧ A env M1 fun y M2 => match y with
        | .int j => match M2 p with
          | some (.ins C' dx' fs') => (C' = C ∧ fs'.length < 1000) ∧ E.nx env (mup M2 p (.ins C' dx' (putFD f (.int (fi i j)) fs')))
          | _ => False
        | _ => False
      | _ => False
    | _ => False
  | _ => False
theorem s_fldaug {op : Operator} {fi : Int → Int → Int} (ho : InOp X op (ipI fi)) (h1 : Ex X o to_ O) (h2 : Ex X e ta A) (hK : X.K = K := by rfl) : Sm X (.AugAssign (.Attribute o f tpos) op e pos) (sFldAug K to_ ta (ipI fi) f) (dFldAug K f fi O A) := by
  subst hK
  refine ⟨ps_fldaug h1.p h2.p ho, ?_⟩
  intro S σ H env M D E rn hr f0 c
  refine h1.r S σ H env M _ _ rn hr f0 fun x M1 v H1 f1 g1 r1 hr1 => ?_
  split at f1
  · split at f1
    · rename_i e1
      split at f1
      · rename_i i e2
        cases r1
        obtain ⟨u, z1, z2⟩ := hr1.obj _ _ e1
        cases z2 with
        | ins r =>
          obtain ⟨w, ew, rw_⟩ := r.lookup e2
          cases rw_
          obtain ⟨ok, f1⟩ := f1
          refine ⟨_, _, _, _, _, rfl, z1, ok.c, ok.n, ew, h2.r S σ H1 env M1 _ _ (rn.same g1.same) hr1 f1 fun y M2 v2 H2 f2 g2 r2 hr2 => ?_⟩
          split at f2
          · cases r2
            split at f2
            · rename_i e3
              obtain ⟨⟨rfl, hl⟩, f2⟩ := f2
              obtain ⟨u3, z3, z4⟩ := hr2.obj _ _ e3
              cases z4 with
              | ins r3 =>
                obtain ⟨g, hr'⟩ := hr2.put (o := .ins _ _ _) e3 (.ins (r3.putF (f := f) (.int _)))
                have gg := (g1.trans g2).trans g
                exact ⟨_, _, rfl, rfl, _, _, z3, by rw [r3.len]; exact hl, c.nx env _ σ _ f2 gg (rn.same gg.same) hr'⟩
            · exact f2.elim
          · exact f2.elim
      · exact f1.elim
    · exact f1.elim
  · exact f1.elim
/-! ### d[k] op= e -/
def dDAug (fi : Int → Int → Int) (O I A : DE) : DS := fun E env M => O env M fun o M1 => I env M1 fun i M2 => match dictAt M2 o i with
  | some (_, kds, k) => match valD kds k with
    | some (.int n) => A env M2 fun y M3 => match y, dictAt M3 o i with
      | .int j, some (p, kds', k') => kds'.length < sizeLine ∧ E.nx env (mup M3 p (.dK (putD kds' k' (.int (fi n j)))))
      | _, _ => False
    | _ => False
  | none => False
theorem s_daug {op : Operator} {fi : Int → Int → Int} (hu : X.A.units + 64 < cLine) (ho : InOp X op (ipI fi)) (h1 : Ex X o to_ O) (h2 : Ex X e ti I) (h3 : Ex X a ta A)
    (ha : ∀ ov iv new, augStore e ov iv new = (do holding [new, ov, iv] (setItem ov iv new); release [new, ov, iv] []; pure .next) := by intros; rfl) : Sm X (.AugAssign (.Subscript o e tpos) op a pos) (sDAug to_ ti ta (ipI fi)) (dDAug fi O I A) := by
  refine ⟨ps_daug (by omega) h1.p h2.p h3.p ho ha, ?_⟩
  intro S σ H env M D E rn hr f0 c
  refine h1.r S σ H env M _ _ rn hr f0 fun dy M1 y H1 f1 g1 r1 hr1 => ?_
  refine h2.r S σ H1 env M1 _ _ (rn.same g1.same) hr1 f1 fun di M2 i H2 f2 g2 r2 hr2 => ?_
  split at f2
  · rename_i e1
    have ry := RD.same g2.same _ _ r1
    obtain ⟨kvs, rfl, rfl, z, _, r⟩ := dict_rd hr2 ry r2 e1
    split at f2
    · rename_i n e2
      rcases r.val _ with ⟨n1, _⟩ | ⟨v, d, n1, n2, rd⟩
      · rw [n1] at e2; cases e2
      · rw [n1] at e2
        cases e2
        cases rd
        refine ⟨_, _, rfl, by rw [← n2]; exact DGet.k z, h3.r S σ H2 env M2 _ _ (rn.same (g1.trans g2).same) hr2 f2 fun dz M3 w H3 f3 g3 r3 hr3 => ?_⟩
        split at f3
        · rename_i e3
          cases r3
          obtain ⟨kvs', ea, ek, z', zm', r'⟩ := dict_rd hr3 (RD.same g3.same _ _ ry) (RD.same g3.same _ _ r2) e3
          cases ea
          obtain ⟨g, hr'⟩ := hr3.put (o := .dK _) zm' (.dK (r'.putK (.int _) _))
          have gg := ((g1.trans g2).trans g3).trans g
          refine ⟨_, _, rfl, rfl, _, ?_, c.nx env _ σ _ f3.2 gg (rn.same gg.same) hr'⟩
          rw [ek]
          exact DPut.k z' (by rw [r'.len]; exact f3.1)
        · exact f3.elim
    · exact f2.elim
  · exact f2.elim
/-! ### {'a': e, ..} -/
def pairsD : List (Str × DE) → DEnv → MH → (List (L2.Key × Dv) → MH → Prop) → Prop
  | [], _, M, Q => Q [] M
  | (k, A) :: r, env, M, Q => A env M fun d M1 => pairsD r env M1 fun ps M2 => Q ((.inr k, d) :: ps) M2
def mergeD (kds more : List (L2.Key × Dv)) : List (L2.Key × Dv) := more.foldl (fun acc kv => putD acc kv.1 kv.2) kds
theorem RKV.merge {G : Hp} : ∀ {ms : List (L2.Key × V)} {mds : List (L2.Key × Dv)} {kvs : List (L2.Key × V)} {kds : List (L2.Key × Dv)}, RKV K G ms mds → RKV K G kvs kds → RKV K G (L2.mergeK kvs ms) (mergeD kds mds)
  | _, _, _, _, .nil, h => h
  | (k, v) :: ms, (_, d) :: mds, kvs, kds, .cons a b, h => by
    have z := RKV.merge (ms := ms) (mds := mds) (kvs := L2.putK kvs k v) (kds := putD kds k d) b (h.putK a k)
    exact z
structure Prs (X : Cx) (pos : Pos) (keys : List (Option Expr)) (values : List Expr) (trs : List (TE × TE)) (F : List (Str × DE)) : Prop where
  p : L2.PPs X pos keys values trs
  r : ∀ (S : Addr → Bool) (σ : L2.St) (H : Hp) (env : DEnv) (M : MH) (Q : List (V × V) → Hp → Prop) (R : List (L2.Key × Dv) → MH → Prop), RN X.K (hid S M H) σ env → HR X.K S M H → pairsD F env M R →
    (∀ kds M' kvs H', R kds M' → Gr S M H M' H' → RKV X.K (hid S M' H') kvs kds → HR X.K S M' H' → Q (kvs.map fun kv => (L2.kV kv.1, kv.2)) H') → tPairs trs σ H Q
  l : keys.length = F.length
theorem prs_nil : Prs X pos [] [] [] [] := ⟨L2.pps_nil, fun S σ H env M Q R rn hr f q => q [] M [] H f Gr.refl .nil hr, rfl⟩
theorem prs_cons {k : Str} {jj : Nat} {p1 : Pos} {v : Expr} {ks : List (Option Expr)} {vs : List Expr} {trs : List (TE × TE)} {F : List (Str × DE)} (hv : Ex X v ta A) (h : Prs X pos ks vs trs F) : Prs X pos (some (.Constant (.str k) jj p1) :: ks) (v :: vs) ((tC (.str k), ta) :: trs) ((k, A) :: F) := by
  refine ⟨L2.pps_cons pe_str hv.p h.p, ?_, by rw [List.length_cons, List.length_cons, h.l]⟩
  intro S σ H env M Q R rn hr f q
  refine hv.r S σ H env M _ _ rn hr f fun d M1 w H1 f1 g1 r1 hr1 => ?_
  refine h.r S σ H1 env M1 _ _ (rn.same g1.same) hr1 f1 fun kds M2 kvs H2 f2 g2 r2 hr2 => ?_
  exact q _ M2 ((.inr k, w) :: kvs) H2 f2 (g1.trans g2) (.cons (RD.same g2.same _ _ r1) r2) hr2
def dDisp (F : List (Str × DE)) : DE := fun env M Q => ∀ p, M p = none → pairsD F env (mup M p (.dK [])) fun kds M2 => M2 p = some (.dK []) ∧ kds.length ≤ 15 ∧ Q (.ref p) (mup M2 p (.dK (mergeD [] kds)))
theorem d_disp {keys : List (Option Expr)} {values : List Expr} {trs : List (TE × TE)} {F : List (Str × DE)} (h : Prs X pos keys values trs F) (hall : keys.all (·.isSome) = true := by rfl) (hl : keys.length = values.length := by rfl) (h0 : keys ≠ [] := by simp) (h15 : keys.length ≤ 15 := by decide) : Ex X (.Dict keys values pos) (tDisp trs) (dDisp F) := by
  refine ⟨pe_disp h.p hall hl h0 h15, ?_⟩
  intro S σ H env M Q R rn hr f q
  intro p hp
  obtain ⟨g1, hr1⟩ := hr.newM hp (.dK .nil)
  refine h.r S σ _ env _ _ _ (rn.same g1.same) hr1 (f p (hr.fresh hp).2) fun kds M2 kvs H2 f2 g2 r2 hr2 => ?_
  obtain ⟨e1, e2, f2⟩ := f2
  obtain ⟨u, z1, z2⟩ := hr2.obj _ _ e1
  cases z2 with
  | dK rr =>
    cases rr
    obtain ⟨g, hr'⟩ := hr2.put (o := .dK _) e1 (.dK (r2.merge .nil))
    exact ⟨z1, kvs, rfl, by rw [r2.len]; exact e2, q _ _ _ _ f2 ((g1.trans g2).trans g) (.ref p) hr'⟩
/-! ### lengths of texts -/
theorem textFrom_le : ∀ (ts : List Str) (k : Nat) (acc : Str), (textFrom k acc ts).length ≤ acc.length + (ts.map fun t => t.length + 2).sum
  | [], _, _ => Nat.le_refl _
  | t :: r, k, acc => by
    have h := textFrom_le r (k + 1) (acc ++ (if k > 0 then ", " else "" : String) ++ t)
    have e : (acc ++ (if k > 0 then ", " else "" : String) ++ t).length = acc.length + (if k > 0 then 2 else 0) + t.length := by
      rw [strLen_append, strLen_append]
      split <;> rfl
    rw [e] at h
    rw [List.map_cons, List.sum_cons]
    show (textFrom (k + 1) _ r).length ≤ _
    have : (if k > 0 then 2 else 0 : Nat) ≤ 2 := by split <;> omega
    omega
theorem listText_le (ts : List Str) : (listText ts).length ≤ (ts.map fun t => t.length + 2).sum + 2 := by
  unfold listText
  rw [strLen_append]
  have h := textFrom_le ts 0 "["
  have e : ("[" : Str).length = 1 := rfl
  have e2 : ("]" : Str).length = 1 := rfl
  omega
theorem intText_le {i : Int} {k : Nat} (hk : 1 ≤ k) (h : i.natAbs < 10 ^ k) : (PyData.shown (.int i)).length ≤ k + 1 := by
  have := intL_len hk h
  unfold intL at this
  exact this
theorem boolText_le (b : Bool) : (PyData.shown (.bool b)).length ≤ 5 := by cases b <;> decide +kernel
/-! ### lists of items that may be compared -/
def laidD (d : Dv) : Bool := datD d && (toP d).canLay0 && decide ((toP d).depth ≤ 40)
theorem shp_list : ∀ {L : List Dv}, (∀ d ∈ L, laidD d = true) → datDs L = true ∧ PyData.canLayAll0 (toPs L) = true ∧ PyData.depthAll (toPs L) ≤ 40
  | [], _ => ⟨rfl, rfl, Nat.zero_le _⟩
  | d :: L, h => by
    obtain ⟨a, b, c⟩ := shp_list (L := L) fun x hx => h x (List.mem_cons_of_mem _ hx)
    have z := h d List.mem_cons_self
    unfold laidD at z
    rw [Bool.and_eq_true, Bool.and_eq_true] at z
    have z2 := of_decide_eq_true z.2
    refine ⟨by rw [datDs, z.1.1, a]; rfl, by rw [toPs, PyData.canLayAll0, z.1.2, b]; rfl, ?_⟩
    rw [toPs, PyData.depthAll]
    omega
theorem shp_lst {L : List Dv} (h : ∀ d ∈ L, laidD d = true) : shp (.lst L) = true := by
  obtain ⟨a, b, c⟩ := shp_list h
  unfold shp SeqAt.shaped
  rw [Bool.and_eq_true, Bool.and_eq_true]
  exact ⟨by simpa [datD] using a, by simpa [toP, PyData.canLay0] using b, decide_eq_true (by simp only [toP, PyData.depth]; omega)⟩
theorem eqv_self {d : Dv} (h : shp d = true) : PyData.eqv (toP d) (toP d) = true := by
  unfold shp SeqAt.shaped at h
  rw [Bool.and_eq_true, Bool.and_eq_true] at h
  exact PySem.SeqAt.eqv_refl _ h.2.1
/-! ### repr of whatever is data, without dicts -/
def okR (d : Dv) : Bool := datD d && PyData.showable (toP d) && !PyData.hasDict (toP d)
def rReprA (K : PySem.W.Frag) : List V → Hp → VK → Prop := fun xs H Q => ∃ x d, xs = [x] ∧ Dp K H x d ∧ (PyData.showable d = true ∧ PyData.hasDict d = false) ∧ d.depth ≤ 60 ∧ d.shown.length ≤ sizeLine ∧ Q (.str d.shown) H
theorem call_reprA {k : Nat} (hg : X.A.guards = some []) (room : Room k X.A) : CallR X (.builtin "repr") (rReprA X.K) := by
  intro pins s σ H xs us Q I r h
  obtain ⟨x, d, rfl, hd, ⟨ok, nd⟩, dep, len, q⟩ := h
  obtain ⟨u, rfl, rx⟩ := vals1 r
  have hu := room.units
  have seq : ∀ a, u = .ref a → (∃ as, PySem.Reads s.heap (.ref a) d as) → wpAny (model X.prog X.w) X.A (call (.builtin "repr") [u]) (EP X pins σ Q) X.xe s := by
    rintro a rfl ⟨as, rd⟩
    refine PySem.repr_of_reads' rd ok (fun z => ?_) hg (by omega) (fun _ _ e => e) (fun h' u tk kp => ?_) len
    · rw [nd] at z
      cases z
    · exact ⟨.str _, H, I.kept (t' := tk) kp, ⟨u, rfl⟩, q⟩
  cases d with
  | none =>
    cases hd
    cases rx
    exact PySem.P.repr_of_none ⟨.str _, H, I.tok _, ⟨_, rfl⟩, q⟩
  | bool b =>
    cases hd
    cases rx
    exact PySem.P.repr_of_bool ⟨.str _, H, I.tok _, ⟨_, rfl⟩, q⟩
  | int i =>
    cases hd
    obtain ⟨t, rfl⟩ := rx
    exact PySem.P.repr_of_int (by simpa [PyData.showable] using ok) ⟨.str _, H, I.tok _, ⟨_, rfl⟩, q⟩
  | str y =>
    cases hd
    obtain ⟨t, rfl⟩ := rx
    exact PySem.P.repr_of_str ⟨.str _, H, I.tok _, ⟨_, rfl⟩, q⟩ (by simpa [PyData.shown] using len)
  | tuple xs =>
    obtain ⟨as, rd⟩ := Dp.reads I _ _ _ hd rx
    cases hd
    cases rx
    exact seq _ rfl ⟨as, rd⟩
  | list xs =>
    obtain ⟨as, rd⟩ := Dp.reads I _ _ _ hd rx
    cases hd
    cases rx
    exact seq _ rfl ⟨as, rd⟩
  | dict xs => simp [PyData.hasDict] at nd
/-- what stands for a list that changes -/
def frozen (M : MH) (d : Dv) : Dv := match lsD M d with
  | some ds => .lst ds
  | none => d
def gReprA : DL := fun ds M Q => match ds with
  | [d] => (okR (frozen M d) = true ∧ (toP (frozen M d)).depth ≤ 60 ∧ (toP (frozen M d)).shown.length ≤ sizeLine) ∧ Q (.str (toP (frozen M d)).shown) M
  | _ => False
theorem k_reprA {k : Nat} (hg : X.A.guards = some []) (room : Room k X.A) (hK : X.K = K := by rfl) : Cb X (.builtin "repr") (rReprA K) gReprA := by
  subst hK
  refine ⟨call_reprA hg room, ?_⟩
  intro S H vs ds M Q R rs hr f0 q
  unfold gReprA at f0
  split at f0
  · obtain ⟨⟨h1, h2, h3⟩, f⟩ := f0
    obtain ⟨v, rfl, rd⟩ := rs.one
    unfold okR at h1
    rw [Bool.and_eq_true, Bool.and_eq_true, Bool.not_eq_true'] at h1
    refine ⟨v, _, rfl, ?_, ⟨h1.1.2, h1.2⟩, h2, h3, q _ M _ H f Gr.refl (.str _) hr⟩
    have hd := h1.1.1
    unfold frozen at hd ⊢
    split at hd
    · rename_i e
      exact ls_dp hr rd e hd
    · exact RD.dp _ _ hd rd
  · exact f0.elim
end
end Vk
set_option linter.unusedVariables false
set_option linter.unusedSimpArgs false
namespace Vk
open PySem PySem.Spec PyProof.Rows L2
def top (i : Nat) : Stmt := PySem.Challenge.pw_trothbase_k40_shelves_keep_a_prefix.main.body.getD i (.Pass ⟨0, 0, 0, 0⟩)
def inClass (s : Stmt) (i : Nat) : Stmt := match s with
  | .ClassDef _ _ _ b .. => b.getD i (.Pass ⟨0, 0, 0, 0⟩)
  | _ => .Pass ⟨0, 0, 0, 0⟩
structure Tx (K : PySem.W.Frag) (mg : Str → Option Value) (C_Shelf C_TrothError C_InvalidArgument C_PowerOff C_HouseClosed : Addr) : Prop where
  f_lasting : FldOk K C_Shelf "_lasting"
  f_waiting : FldOk K C_Shelf "_waiting"
  f_on : FldOk K C_Shelf "_is_on"
  f_losses : FldOk K C_Shelf "_losses"
  f_left : FldOk K C_Shelf "_left"
  e_TrothError : ErrC K mg "TrothError" C_TrothError
  e_InvalidArgument : ErrC K mg "InvalidArgument" C_InvalidArgument
  e_PowerOff : ErrC K mg "PowerOff" C_PowerOff
  e_HouseClosed : ErrC K mg "HouseClosed" C_HouseClosed
  x_exc : ExcC K C_PowerOff
  x_exm : PySem.W.exmOne K (.ref C_PowerOff) (.ref C_PowerOff) = some true
  x_TE : PySem.W.kitOne K (.ref C_PowerOff) (.ref C_TrothError) = some true
  x_IA : PySem.W.kitOne K (.ref C_PowerOff) (.ref C_InvalidArgument) = some false
  x_HC : PySem.W.kitOne K (.ref C_PowerOff) (.ref C_HouseClosed) = some false
  x_VE : PySem.W.kitOne K (.ref C_PowerOff) (.type "ValueError") = some true
  int : mg "int" = none
  list : mg "list" = none
  isinstance : mg "isinstance" = none
  len : mg "len" = none
  max : mg "max" = none
  min : mg "min" = none
  range : mg "range" = none
  repr : mg "repr" = none
  ValueError : mg "ValueError" = none
theorem mup_none {M : MH} {a b : Addr} {o : MO} (h : mup M a o b = none) : b ≠ a ∧ M b = none := by
  unfold mup at h
  split at h
  · cases h
  · exact ⟨by assumption, h⟩
theorem mup_id {M : MH} {a : Addr} {o : MO} (h : M a = some o) : mup M a o = M := by
  funext u
  by_cases c : u = a
  · subst c; rw [mup_same, h]
  · rw [mup_ne c]
theorem iteBF {A B : Prop} {c : Bool} (h : c = false) (b : B) : if c = true then A else B := by rw [h, if_neg Bool.false_ne_true]; exact b
theorem iteBT {A B : Prop} {c : Bool} (h : c = true) (b : A) : if c = true then A else B := by rw [h, if_pos rfl]; exact b
theorem iteB {A B : Prop} {c : Bool} (h1 : c = true → A) (h2 : c = false → B) : if c = true then A else B := by
  cases e : c with
  | true => rw [if_pos rfl]; exact h1 e
  | false => rw [if_neg Bool.false_ne_true]; exact h2 e
theorem ifS_key {I : DT} {T U : DS} {E : DEnds} {env : DEnv} {M : MH} (C : DEnv → MH → Prop) (h : ∀ nx : DEnv → MH → Prop, (∀ e m, C e m → nx e m) → dIfS I T U { E with nx := nx } env M) (key : ∀ e m, C e m → E.nx e m) : dIfS I T U E env M := h E.nx key
theorem cut_to {ds : List Dv} (p : Nat) : cutD ds none (some (p : Int)) = ds.take p := by
  unfold cutD
  rw [HT.sIx_nat]
  show (ds.drop 0).take (min p ds.length - 0) = _
  rw [List.drop_zero, Nat.sub_zero, List.take_eq_take_iff]
  omega
theorem cut_from {ds : List Dv} (p : Nat) : cutD ds (some (p : Int)) none = ds.drop p := by
  unfold cutD
  rw [HT.sIx_nat]
  show (ds.drop (min p ds.length)).take (ds.length - min p ds.length) = _
  rw [List.take_of_length_le (by rw [List.length_drop]; omega)]
  by_cases h : p ≤ ds.length
  · rw [Nat.min_eq_left h]
  · rw [Nat.min_eq_right (by omega), List.drop_length, List.drop_of_length_le (by omega)]
/-- a shelf, as the law keeps it -/
structure MS where
  lasts : List Dv
  waits : List Dv
  on : Bool
  fuse : Option Int
  losses : Int
def optD : Option Int → Dv
  | none => .non
  | some n => .int n
def MS.fail (s : MS) : MS := { s with on := false, losses := s.losses + 1, fuse := none }
def opS (s : MS) : MS × Bool := if s.on = true then (match s.fuse with
  | none => (s, true)
  | some n => if n ≤ 0 then (s.fail, false) else ({ s with fuse := some (n - 1) }, true)) else (s, false)
def appS (r : Dv) (s : MS) : MS × Bool := if (opS s).2 = true then ({ (opS s).1 with waits := (opS s).1.waits ++ [r] }, true) else ((opS s).1, false)
def synS (s : MS) : MS × Bool := if (opS s).2 = true then ({ (opS s).1 with lasts := (opS s).1.lasts ++ (opS s).1.waits, waits := [] }, true) else ((opS s).1, false)
def faS (n : Int) (s : MS) : MS × Bool := if s.on = true then ({ s with fuse := some n }, true) else (s, false)
def offS (s : MS) : MS := if s.on = true then s.fail else s
def powS (n : Int) (s : MS) : MS := { offS s with lasts := (offS s).lasts ++ (offS s).waits.take n.toNat, waits := [], on := true }
def stepS (deed n : Int) (r : Dv) (s : MS) : MS × Bool := if deed ≤ 3 then appS r s else if deed ≤ 5 then synS s else if deed = 6 then faS n s else (powS n s, true)
def shF (a b : Addr) (on : Bool) (l : Int) (f : Dv) : List (Str × Dv) := [("_lasting", .ref a), ("_waiting", .ref b), ("_is_on", .bl on), ("_losses", .int l), ("_left", f)]
/-- a shelf at p, its lists at a and b -/
structure ShAt (C : Addr) (M : MH) (p a b : Addr) (s : MS) : Prop where
  r : ∃ dx, M p = some (.ins C dx (shF a b s.on s.losses (optD s.fuse)))
  ra : M a = some (.lst s.lasts)
  rb : M b = some (.lst s.waits)
  ab : a ≠ b
theorem ShAt.pa {C : Addr} {M : MH} {p a b : Addr} {s : MS} (h : ShAt C M p a b s) : p ≠ a ∧ p ≠ b := by
  obtain ⟨dx, hp⟩ := h.r
  refine ⟨fun z => ?_, fun z => ?_⟩
  · have := h.ra
    rw [← z, hp] at this
    cases this
  · have := h.rb
    rw [← z, hp] at this
    cases this
/-- all but these stays -/
def Fr3 (M M' : MH) (p a b : Addr) : Prop := ∀ u o, M u = some o → u ≠ p → u ≠ a → u ≠ b → M' u = some o
theorem Fr3.refl {M : MH} {p a b : Addr} : Fr3 M M p a b := fun _ _ h _ _ _ => h
theorem Fr3.up {M M' : MH} {p a b : Addr} (f : Fr3 M M' p a b) {u : Addr} {o : MO} (h : u = p ∨ u = a ∨ u = b ∨ M u = none) : Fr3 M (mup M' u o) p a b := fun v q hv h1 h2 h3 => by
  rw [mup_ne (fun z => by subst z; rcases h with h | h | h | h <;> first | exact h1 h | exact h2 h | exact h3 h | (rw [h] at hv; cases hv))]
  exact f v q hv h1 h2 h3
/-- what stands at the shelf's own address changes -/
theorem ShAt.put {C : Addr} {M : MH} {p a b dx : Addr} {s s' : MS} (h : ShAt C M p a b s) (e1 : s'.lasts = s.lasts) (e2 : s'.waits = s.waits) : ShAt C (mup M p (.ins C dx (shF a b s'.on s'.losses (optD s'.fuse)))) p a b s' :=
  ⟨⟨dx, mup_same⟩, by rw [mup_ne (Ne.symm h.pa.1), e1]; exact h.ra, by rw [mup_ne (Ne.symm h.pa.2), e2]; exact h.rb, h.ab⟩
def F_Shelf_init (C_Shelf C_PowerOff : Addr) : DF := fun ds M Q => ∃ p dx, ds = [.ref p] ∧ M p = some (.ins C_Shelf dx []) ∧ ∀ a b M', ShAt C_Shelf M' p a b ⟨[], [], true, none, 0⟩ → M a = none → M b = none → (∀ u o, M u = some o → u ≠ p → M' u = some o) → Q .non M'
section
variable {P : Program} {w : World} {K : PySem.W.Frag} {mg : Str → Option Value} {base : Heap} {C_Shelf C_TrothError C_InvalidArgument C_PowerOff C_HouseClosed : Addr}
theorem len_Shelf_init : ∀ ds M R, F_Shelf_init C_Shelf C_PowerOff ds M R → ds.length = ["self"].length := by
  rintro _ _ _ ⟨p, dx, rfl, _⟩
  rfl
theorem fld_at {M : MH} {p C dx : Addr} {fs : List (Str × Dv)} {f : Str} {d : Dv} {env : DEnv} {Q : DK} {O : DE} {A : (Dv → MH → Prop)} (h : M p = some (.ins C dx fs)) (l : fs.lookup f = some d) (ok : FldOk K C f) (q : A d M) : (match M p with
    | some (.ins C dx fs) => match fs.lookup f with
      | some d => FldOk K C f ∧ A d M
      | none => False
    | _ => False) := by
  rw [h]
  show (match fs.lookup f with | some d => FldOk K C f ∧ A d M | none => False)
  rw [l]
  exact ⟨ok, q⟩
abbrev s_Shelf_init : Stmt := inClass (top 6) 0
theorem sc_Shelf_init : FnScope ["self"] ["self"] (defScope s_Shelf_init) := ⟨rfl, rfl, rfl, by decide +kernel, rfl, by decide +kernel, by decide +kernel⟩
theorem ok_Shelf_init {f : Addr} {fd : FuncData} (Fn : L2.Fun K "__init__" "Shelf.__init__" s_Shelf_init f fd) (T : Tx K mg C_Shelf C_TrothError C_InvalidArgument C_PowerOff C_HouseClosed) : Gk P w K mg base 1 f fd ["self"] (spD K (F_Shelf_init C_Shelf C_PowerOff)) := by
  refine dfun Fn sc_Shelf_init (len_Shelf_init) (fun cd A out s H E hg hr => ⟨_, _, (ss_cons (s_fld (K := K) (dv 0) (d_lstM a_nil))
  (ss_cons (s_fld (K := K) (dv 0) (d_lstM a_nil))
  (ss_cons (s_fld (K := K) (dv 0) d_bl)
  (ss_cons (s_fld (K := K) (dv 0) d_int)
  (ss_one (s_fld (K := K) (dv 0) d_non)))))), ?_⟩)
  rintro ds M R ⟨p, dx, rfl, h1, q⟩
  intro a ha
  have ap : p ≠ a := fun z => by subst z; rw [h1] at ha; cases ha
  show (match (mup M a (.lst [])) p with | some (.ins C dx fs) => _ | _ => False)
  rw [mup_ne ap, h1]
  refine ⟨⟨T.f_lasting, by show 0 < 1000; decide⟩, ?_⟩
  intro b hb
  obtain ⟨bp, hb⟩ := mup_none hb
  obtain ⟨ba, hb⟩ := mup_none hb
  show (match (mup (mup (mup M a (.lst [])) p (.ins C_Shelf dx (putFD "_lasting" (.ref a) []))) b (.lst [])) p with | some (.ins C dx fs) => _ | _ => False)
  rw [mup_ne (Ne.symm bp), mup_same]
  refine ⟨⟨T.f_waiting, by show 1 < 1000; decide⟩, ?_⟩
  show (match (mup _ p _) p with | some (.ins C dx fs) => _ | _ => False)
  rw [mup_same]
  refine ⟨⟨T.f_on, by show 2 < 1000; decide⟩, ?_⟩
  show (match (mup _ p _) p with | some (.ins C dx fs) => _ | _ => False)
  rw [mup_same]
  refine ⟨⟨T.f_losses, by show 3 < 1000; decide⟩, ?_⟩
  show (match (mup _ p _) p with | some (.ins C dx fs) => _ | _ => False)
  rw [mup_same]
  refine ⟨⟨T.f_left, by show 4 < 1000; decide⟩, ?_⟩
  simp only [mup_mup]
  refine q a b _ ⟨⟨dx, by rw [mup_same]; rfl⟩, ?_, ?_, Ne.symm ba⟩ ha hb (fun u o hu up => ?_)
  · rw [mup_ne (Ne.symm ap), mup_ne (Ne.symm ba), mup_ne (Ne.symm ap), mup_same]
  · rw [mup_ne bp, mup_same]
  · rw [mup_ne up, mup_ne (fun z => by subst z; rw [hb] at hu; cases hu), mup_ne up, mup_ne (fun z => by subst z; rw [ha] at hu; cases hu)]
    exact hu
def F_Shelf_records (C_Shelf C_PowerOff : Addr) : DF := fun ds M Q => ∃ p a b s, ds = [.ref p] ∧ ShAt C_Shelf M p a b s ∧ s.lasts.length + s.waits.length ≤ 1000 ∧ ∀ r, M r = none → Q (.ref r) (mup M r (.lst (s.lasts ++ s.waits)))
theorem len_Shelf_records : ∀ ds M R, F_Shelf_records C_Shelf C_PowerOff ds M R → ds.length = ["self"].length := by
  rintro _ _ _ ⟨p, a, b, s, rfl, _⟩
  rfl
theorem addLM_go {x y : Dv} {ds es : List Dv} {M : MH} {Q : DK} (h1 : lsD M x = some ds) (h2 : lsD M y = some es) (l : ds.length + es.length ≤ sizeLine) (q : ∀ p, M p = none → Q (.ref p) (mup M p (.lst (ds ++ es)))) : gAddLM x y M Q := by
  unfold gAddLM
  rw [h1, h2]
  exact ⟨l, q⟩
theorem ls_ref {M : MH} {a : Addr} {L : List Dv} (h : M a = some (.lst L)) : lsD M (.ref a) = some L := by
  show (match M a with | some (.lst ds) => some ds | _ => none) = _
  rw [h]
abbrev s_Shelf_records : Stmt := inClass (top 6) 1
theorem sc_Shelf_records : FnScope ["self"] ["self"] (defScope s_Shelf_records) := ⟨rfl, rfl, rfl, by decide +kernel, rfl, by decide +kernel, by decide +kernel⟩
theorem ok_Shelf_records {f : Addr} {fd : FuncData} (Fn : L2.Fun K "records" "Shelf.records" s_Shelf_records f fd) (T : Tx K mg C_Shelf C_TrothError C_InvalidArgument C_PowerOff C_HouseClosed) : Gk P w K mg base 1 f fd ["self"] (spD K (F_Shelf_records C_Shelf C_PowerOff)) := by
  refine dfun Fn sc_Shelf_records (len_Shelf_records) (fun cd A out s H E hg hr => ⟨_, _, (ss_one (s_ret (d_op o_addLM (d_fld (K := K) (dv 0)) (d_fld (K := K) (dv 0))))), ?_⟩)
  rintro ds M R ⟨p, a, b, s, rfl, h, hl, q⟩
  have sz : (sizeLine : Nat) = 16777216 := by decide +kernel
  obtain ⟨dx, hp⟩ := h.r
  show (match M p with | some (.ins C dx fs) => _ | _ => False)
  rw [hp]
  refine ⟨T.f_lasting, ?_⟩
  show (match M p with | some (.ins C dx fs) => _ | _ => False)
  rw [hp]
  refine ⟨T.f_waiting, ?_⟩
  exact addLM_go (ls_ref h.ra) (ls_ref h.rb) (by omega) q
def F_Shelf_pending (C_Shelf C_PowerOff : Addr) : DF := fun ds M Q => ∃ p a b s, ds = [.ref p] ∧ ShAt C_Shelf M p a b s ∧ Q (.int (s.waits.length : Nat)) M
theorem len_Shelf_pending : ∀ ds M R, F_Shelf_pending C_Shelf C_PowerOff ds M R → ds.length = ["self"].length := by
  rintro _ _ _ ⟨p, a, b, s, rfl, _⟩
  rfl
abbrev s_Shelf_pending : Stmt := inClass (top 6) 4
theorem sc_Shelf_pending : FnScope ["self"] ["self"] (defScope s_Shelf_pending) := ⟨rfl, rfl, rfl, by decide +kernel, rfl, by decide +kernel, by decide +kernel⟩
theorem ok_Shelf_pending {f : Addr} {fd : FuncData} (Fn : L2.Fun K "pending" "Shelf.pending" s_Shelf_pending f fd) (T : Tx K mg C_Shelf C_TrothError C_InvalidArgument C_PowerOff C_HouseClosed) : Gk P w K mg base 1 f fd ["self"] (spD K (F_Shelf_pending C_Shelf C_PowerOff)) := by
  refine dfun Fn sc_Shelf_pending (len_Shelf_pending) (fun cd A out s H E hg hr => ⟨_, _, (ss_one (s_ret (d_cb (k_len (K := K)) (by rfl) T.len (by decide +kernel) (a_cons (d_fld (K := K) (dv 0)) a_nil)))), ?_⟩)
  rintro ds M R ⟨p, a, b, s, rfl, h, q⟩
  obtain ⟨dx, hp⟩ := h.r
  show (match M p with | some (.ins C dx fs) => _ | _ => False)
  rw [hp]
  refine ⟨T.f_waiting, ?_⟩
  show (match M b with | some (.lst xs) => _ | _ => False)
  rw [h.rb]
  exact q
def F_Shelf_is_on (C_Shelf C_PowerOff : Addr) : DF := fun ds M Q => ∃ p a b s, ds = [.ref p] ∧ ShAt C_Shelf M p a b s ∧ Q (.bl s.on) M
theorem len_Shelf_is_on : ∀ ds M R, F_Shelf_is_on C_Shelf C_PowerOff ds M R → ds.length = ["self"].length := by
  rintro _ _ _ ⟨p, a, b, s, rfl, _⟩
  rfl
abbrev s_Shelf_is_on : Stmt := inClass (top 6) 7
theorem sc_Shelf_is_on : FnScope ["self"] ["self"] (defScope s_Shelf_is_on) := ⟨rfl, rfl, rfl, by decide +kernel, rfl, by decide +kernel, by decide +kernel⟩
theorem ok_Shelf_is_on {f : Addr} {fd : FuncData} (Fn : L2.Fun K "is_on" "Shelf.is_on" s_Shelf_is_on f fd) (T : Tx K mg C_Shelf C_TrothError C_InvalidArgument C_PowerOff C_HouseClosed) : Gk P w K mg base 1 f fd ["self"] (spD K (F_Shelf_is_on C_Shelf C_PowerOff)) := by
  refine dfun Fn sc_Shelf_is_on (len_Shelf_is_on) (fun cd A out s H E hg hr => ⟨_, _, (ss_one (s_ret (d_fld (K := K) (dv 0)))), ?_⟩)
  rintro ds M R ⟨p, a, b, s, rfl, h, q⟩
  obtain ⟨dx, hp⟩ := h.r
  show (match M p with | some (.ins C dx fs) => _ | _ => False)
  rw [hp]
  exact ⟨T.f_on, q⟩
def F_Shelf_losses (C_Shelf C_PowerOff : Addr) : DF := fun ds M Q => ∃ p a b s, ds = [.ref p] ∧ ShAt C_Shelf M p a b s ∧ Q (.int s.losses) M
theorem len_Shelf_losses : ∀ ds M R, F_Shelf_losses C_Shelf C_PowerOff ds M R → ds.length = ["self"].length := by
  rintro _ _ _ ⟨p, a, b, s, rfl, _⟩
  rfl
abbrev s_Shelf_losses : Stmt := inClass (top 6) 8
theorem sc_Shelf_losses : FnScope ["self"] ["self"] (defScope s_Shelf_losses) := ⟨rfl, rfl, rfl, by decide +kernel, rfl, by decide +kernel, by decide +kernel⟩
theorem ok_Shelf_losses {f : Addr} {fd : FuncData} (Fn : L2.Fun K "losses" "Shelf.losses" s_Shelf_losses f fd) (T : Tx K mg C_Shelf C_TrothError C_InvalidArgument C_PowerOff C_HouseClosed) : Gk P w K mg base 1 f fd ["self"] (spD K (F_Shelf_losses C_Shelf C_PowerOff)) := by
  refine dfun Fn sc_Shelf_losses (len_Shelf_losses) (fun cd A out s H E hg hr => ⟨_, _, (ss_one (s_ret (d_fld (K := K) (dv 0)))), ?_⟩)
  rintro ds M R ⟨p, a, b, s, rfl, h, q⟩
  obtain ⟨dx, hp⟩ := h.r
  show (match M p with | some (.ins C dx fs) => _ | _ => False)
  rw [hp]
  exact ⟨T.f_losses, q⟩
def F_Shelf_fail (C_Shelf C_PowerOff : Addr) : DF := fun ds M Q => ∃ p a b s, ds = [.ref p] ∧ ShAt C_Shelf M p a b s ∧ ∀ M', ShAt C_Shelf M' p a b s.fail → Fr3 M M' p a b → Q .non M'
theorem len_Shelf_fail : ∀ ds M R, F_Shelf_fail C_Shelf C_PowerOff ds M R → ds.length = ["self"].length := by
  rintro _ _ _ ⟨p, a, b, s, rfl, _⟩
  rfl
abbrev s_Shelf_fail : Stmt := inClass (top 6) 11
theorem sc_Shelf_fail : FnScope ["self"] ["self"] (defScope s_Shelf_fail) := ⟨rfl, rfl, rfl, by decide +kernel, rfl, by decide +kernel, by decide +kernel⟩
theorem ok_Shelf_fail {f : Addr} {fd : FuncData} (Fn : L2.Fun K "_fail" "Shelf._fail" s_Shelf_fail f fd) (T : Tx K mg C_Shelf C_TrothError C_InvalidArgument C_PowerOff C_HouseClosed) : Gk P w K mg base 1 f fd ["self"] (spD K (F_Shelf_fail C_Shelf C_PowerOff)) := by
  refine dfun Fn sc_Shelf_fail (len_Shelf_fail) (fun cd A out s H E hg hr => ⟨_, _, (ss_cons (s_fld (K := K) (dv 0) d_bl)
  (ss_cons (s_fldaug (K := K) ip_add (dv 0) d_int)
  (ss_one (s_fld (K := K) (dv 0) d_non)))), ?_⟩)
  rintro ds M R ⟨p, a, b, s, rfl, h, q⟩
  obtain ⟨dx, hp⟩ := h.r
  show (match M p with | some (.ins C dx fs) => _ | _ => False)
  rw [hp]
  refine ⟨⟨T.f_on, by show 5 < 1000; decide⟩, ?_⟩
  show (match (mup M p _) p with | some (.ins C dx fs) => _ | _ => False)
  rw [mup_same]
  refine ⟨T.f_losses, ?_⟩
  show (match (mup M p _) p with | some (.ins C dx fs) => _ | _ => False)
  rw [mup_same]
  refine ⟨⟨rfl, by show 5 < 1000; decide⟩, ?_⟩
  show (match (mup _ p _) p with | some (.ins C dx fs) => _ | _ => False)
  rw [mup_same]
  refine ⟨⟨T.f_left, by show 5 < 1000; decide⟩, ?_⟩
  simp only [mup_mup]
  exact q _ (h.put (s' := s.fail) rfl rfl) (Fr3.refl.up (.inl rfl))
def F_Shelf_power (C_Shelf C_PowerOff : Addr) : DF := fun ds M Q => ∃ p a b s n, ds = [.ref p, .int n] ∧ 0 ≤ n ∧ ShAt C_Shelf M p a b s ∧ s.lasts.length + s.waits.length ≤ 1000 ∧ ∀ M' b', M b' = none → ShAt C_Shelf M' p a b' (powS n s) → Fr3 M M' p a b → Q .non M'
theorem len_Shelf_power : ∀ ds M R, F_Shelf_power C_Shelf C_PowerOff ds M R → ds.length = ["self", "kept"].length := by
  rintro _ _ _ ⟨p, a, b, s, n, rfl, _⟩
  rfl
abbrev s_Shelf_power : Stmt := inClass (top 6) 6
theorem sc_Shelf_power : FnScope ["self", "kept", "arrived"] ["self", "kept"] (defScope s_Shelf_power) := ⟨rfl, rfl, rfl, by decide +kernel, rfl, by decide +kernel, by decide +kernel⟩
theorem ok_Shelf_power {f : Addr} {fd : FuncData} (Fn : L2.Fun K "power" "Shelf.power" s_Shelf_power f fd) (T : Tx K mg C_Shelf C_TrothError C_InvalidArgument C_PowerOff C_HouseClosed) (M_Shelf_fail : DMeth P w K mg base C_Shelf "_fail" 1 (F_Shelf_fail C_Shelf C_PowerOff)) : Gk P w K mg base 2 f fd ["self", "kept"] (spD K (F_Shelf_power C_Shelf C_PowerOff)) := by
  refine dfun Fn sc_Shelf_power (len_Shelf_power) (fun cd A out s H E hg hr => ⟨_, _, (ss_cons (s_if (t_val (d_fld (K := K) (dv 0))) (ss_one (s_expr (d_meth0 (K := K) hg M_Shelf_fail hr (dv 0)))) ss_nil)
  (ss_cons (s_set (i := 2) sc_Shelf_power.nd rfl (Or.inl rfl) (d_cb (c_max rfl) (by rfl) T.max (by decide +kernel) (a_cons d_int (a_cons (dv 1) a_nil))))
  (ss_cons (s_expr (d_bm PySem.F.plainAttrs_list PySem.F.slot_list_extend PySem.F.type_list_extend mt_extend mt_extA (d_fld (K := K) (dv 0)) (a_cons (k_slice (K := K) (d_fld (K := K) (dv 0)) p_none (p_some (dv 2))) a_nil)))
  (ss_cons (s_fld (K := K) (dv 0) (d_lstM a_nil))
  (ss_one (s_fld (K := K) (dv 0) d_bl)))))), ?_⟩)
  rintro ds M R ⟨p, a, b, s, n, rfl, n0, h, hl, q⟩
  have sz : (sizeLine : Nat) = 16777216 := by decide +kernel
  dsimp only [dSeq, dDrop]
  refine ifS_key (fun e m => e = [some (.ref p), some (.int n), none] ∧ ShAt C_Shelf m p a b (offS s) ∧ Fr3 M m p a b) (fun nx key => ?_) ?_
  · obtain ⟨dx, hp⟩ := h.r
    show (match M p with | some (.ins C dx fs) => _ | _ => False)
    rw [hp]
    refine ⟨T.f_on, ?_⟩
    show (if s.on = true then _ else _)
    refine iteB (fun e => ?_) (fun e => ?_)
    · show (match M p with | some (.ins C dx fs) => _ | _ => False)
      rw [hp]
      refine ⟨⟨rfl, rfl⟩, p, a, b, s, rfl, h, fun M' h' f => key _ _ ⟨rfl, ?_, f⟩⟩
      unfold offS
      rw [if_pos e]
      exact h'
    · refine key _ _ ⟨rfl, ?_, Fr3.refl⟩
      unfold offS
      rw [if_neg (by rw [e]; exact Bool.false_ne_true)]
      exact h
  · rintro e m ⟨rfl, h', f⟩
    obtain ⟨dx, hp⟩ := h'.r
    have ll : (offS s).lasts.length + (offS s).waits.length ≤ 1000 := by unfold offS; split <;> exact hl
    show (match m p with | some (.ins C dx fs) => _ | _ => False)
    rw [hp]
    refine ⟨T.f_lasting, ?_⟩
    show (match m a with | some (.lst _) => _ | _ => False)
    rw [h'.ra]
    show (match m p with | some (.ins C dx fs) => _ | _ => False)
    rw [hp]
    refine ⟨T.f_waiting, ?_⟩
    show (match m b with | some (.lst ds) => _ | _ => False)
    rw [h'.rb]
    show (match m a with | some (.lst xs) => _ | _ => False)
    rw [h'.ra]
    have em : (if n > 0 then n else 0) = ((n.toNat : Nat) : Int) := by split <;> omega
    dsimp only
    rw [em, cut_to]
    refine ⟨by rw [List.length_take]; omega, ?_⟩
    intro b' hb'
    obtain ⟨ba, hb'⟩ := mup_none hb'
    have bp : b' ≠ p := fun z => by rw [z, hp] at hb'; cases hb'
    show (match (mup (mup m a _) b' (.lst [])) p with | some (.ins C dx fs) => _ | _ => False)
    rw [mup_ne (Ne.symm bp), mup_ne h'.pa.1, hp]
    refine ⟨⟨T.f_waiting, by show 5 < 1000; decide⟩, ?_⟩
    show (match (mup _ p _) p with | some (.ins C dx fs) => _ | _ => False)
    rw [mup_same]
    refine ⟨⟨T.f_on, by show 5 < 1000; decide⟩, ?_⟩
    simp only [mup_mup]
    have bM : M b' = none := by
      cases e : M b' with
      | none => rfl
      | some o =>
        by_cases c1 : b' = b
        · rw [c1, h'.rb] at hb'; cases hb'
        · rw [f b' o e bp ba c1] at hb'; cases hb'
    refine q _ b' bM ⟨⟨dx, by rw [mup_same]; rfl⟩, ?_, ?_, Ne.symm ba⟩ (((f.up (.inr (.inl rfl))).up (.inr (.inr (.inr bM)))).up (.inl rfl))
    · rw [mup_ne (Ne.symm h'.pa.1), mup_ne (Ne.symm ba), mup_same]
      rfl
    · rw [mup_ne bp, mup_same]
      rfl
end
end Vk
set_option linter.unusedVariables false
set_option linter.unusedSimpArgs false
namespace Vk
open PySem PySem.Spec PyProof.Rows L2
section
variable {P : Program} {w : World} {K : PySem.W.Frag} {mg : Str → Option Value} {base : Heap} {C_Shelf C_TrothError C_InvalidArgument C_PowerOff C_HouseClosed : Addr}
def F_Shelf_need_power (C_Shelf C_PowerOff : Addr) : DFX := fun RX ds M Q => ∃ p a b s, ds = [.ref p] ∧ ShAt C_Shelf M p a b s ∧ (s.on = true → Q .non M) ∧ (s.on = false → RX (.ref C_PowerOff) none M)
theorem len_Shelf_need_power : ∀ RX ds M R, F_Shelf_need_power C_Shelf C_PowerOff RX ds M R → ds.length = ["self"].length := by
  rintro _ _ _ _ ⟨p, a, b, s, rfl, _⟩
  rfl
abbrev s_Shelf_need_power : Stmt := inClass (top 6) 9
theorem sc_Shelf_need_power : FnScope ["self"] ["self"] (defScope s_Shelf_need_power) := ⟨rfl, rfl, rfl, by decide +kernel, rfl, by decide +kernel, by decide +kernel⟩
theorem ok_Shelf_need_power {f : Addr} {fd : FuncData} (Fn : L2.Fun K "_need_power" "Shelf._need_power" s_Shelf_need_power f fd) (T : Tx K mg C_Shelf C_TrothError C_InvalidArgument C_PowerOff C_HouseClosed) : GkX P w K mg base 1 f fd ["self"] (spDX K (F_Shelf_need_power C_Shelf C_PowerOff)) := by
  refine dfunX Fn sc_Shelf_need_power (len_Shelf_need_power) (fun cd A out s H E hg hr => ⟨_, _, (xs_one (xs_if (t_not (t_val (d_fld (K := K) (dv 0)))) (xs_one (xs_raise rfl T.e_PowerOff rfl)) (Ss.toX ss_nil))), ?_⟩)
  rintro RX ds M R ⟨p, a, b, s, rfl, h, q1, q2⟩
  obtain ⟨dx, hp⟩ := h.r
  show (match M p with | some (.ins C dx fs) => _ | _ => False)
  rw [hp]
  refine ⟨T.f_on, ?_⟩
  show (if (!s.on) = true then _ else _)
  refine iteB (fun e => q2 (by simpa using e)) (fun e => q1 (by simpa using e))
def F_Shelf_operate (C_Shelf C_PowerOff : Addr) : DFX := fun RX ds M Q => ∃ p a b s, ds = [.ref p] ∧ ShAt C_Shelf M p a b s ∧ ∀ M', ShAt C_Shelf M' p a b (opS s).1 → Fr3 M M' p a b → ((opS s).2 = true → Q .non M') ∧ ((opS s).2 = false → RX (.ref C_PowerOff) none M')
theorem len_Shelf_operate : ∀ RX ds M R, F_Shelf_operate C_Shelf C_PowerOff RX ds M R → ds.length = ["self"].length := by
  rintro _ _ _ _ ⟨p, a, b, s, rfl, _⟩
  rfl
abbrev s_Shelf_operate : Stmt := inClass (top 6) 10
theorem sc_Shelf_operate : FnScope ["self"] ["self"] (defScope s_Shelf_operate) := ⟨rfl, rfl, rfl, by decide +kernel, rfl, by decide +kernel, by decide +kernel⟩
theorem ok_Shelf_operate {f : Addr} {fd : FuncData} (Fn : L2.Fun K "_operate" "Shelf._operate" s_Shelf_operate f fd) (T : Tx K mg C_Shelf C_TrothError C_InvalidArgument C_PowerOff C_HouseClosed) (M_Shelf_need_power : DMethX P w K mg base C_Shelf "_need_power" 1 (F_Shelf_need_power C_Shelf C_PowerOff)) (M_Shelf_fail : DMeth P w K mg base C_Shelf "_fail" 1 (F_Shelf_fail C_Shelf C_PowerOff)) : GkX P w K mg base 2 f fd ["self"] (spDX K (F_Shelf_operate C_Shelf C_PowerOff)) := by
  refine dfunX Fn sc_Shelf_operate (len_Shelf_operate) (fun cd A out s H E hg hr => ⟨_, _, (xs_cons (xs_expr (dx_meth0 hg M_Shelf_need_power hr (dv 0)))
  (xs_cons (Sm.toX (s_if (t_cmp o_isN (d_fld (K := K) (dv 0)) d_non (nomark _)) (ss_one s_retN) ss_nil))
  (xs_cons (xs_if (t_cmp o_le (d_fld (K := K) (dv 0)) d_int (nomark _)) (xs_cons (Sm.toX (s_expr (d_meth0 (K := K) hg M_Shelf_fail hr (dv 0))))
  (xs_one (xs_raise rfl T.e_PowerOff rfl))) (Ss.toX ss_nil))
  (Ss.toX (ss_one (s_fldaug (K := K) ip_sub (dv 0) d_int)))))), ?_⟩)
  rintro RX ds M R ⟨p, a, b, s, rfl, h, q⟩
  obtain ⟨dx, hp⟩ := h.r
  show (match M p with | some (.ins C dx fs) => _ | _ => False)
  rw [hp]
  refine ⟨⟨rfl, rfl⟩, p, a, b, s, rfl, h, fun on => ?_, fun off => ?_⟩
  · show (match M p with | some (.ins C dx fs) => _ | _ => False)
    rw [hp]
    refine ⟨T.f_left, ?_⟩
    cases hf : s.fuse with
    | none =>
      have e : opS s = (s, true) := by unfold opS; rw [if_pos on, hf]
      rw [e] at q
      exact (q M h Fr3.refl).1 rfl
    | some n =>
      rw [hf] at hp
      show (match M p with | some (.ins C dx fs) => _ | _ => False)
      rw [hp]
      refine ⟨T.f_left, ?_⟩
      show (if decide (n ≤ 0) = true then _ else _)
      refine iteB (fun le => ?_) (fun le => ?_)
      · have e : opS s = (s.fail, false) := by unfold opS; rw [if_pos on, hf]; show (if n ≤ 0 then _ else _) = _; rw [if_pos (of_decide_eq_true le)]
        rw [e] at q
        show (match M p with | some (.ins C dx fs) => _ | _ => False)
        rw [hp]
        exact ⟨⟨rfl, rfl⟩, p, a, b, s, rfl, h, fun M' h' f => (q M' h' f).2 rfl⟩
      · have e : opS s = ({ s with fuse := some (n - 1) }, true) := by unfold opS; rw [if_pos on, hf]; show (if n ≤ 0 then _ else _) = _; rw [if_neg (of_decide_eq_false le)]
        rw [e] at q
        show (match M p with | some (.ins C dx fs) => _ | _ => False)
        rw [hp]
        refine ⟨T.f_left, ?_⟩
        show (match M p with | some (.ins C' dx' fs') => _ | _ => False)
        rw [hp]
        refine ⟨⟨rfl, by show 5 < 1000; decide⟩, ?_⟩
        exact (q _ (h.put (s' := { s with fuse := some (n - 1) }) rfl rfl) (Fr3.refl.up (.inl rfl))).1 rfl
  · have e : opS s = (s, false) := by unfold opS; rw [if_neg (by rw [off]; exact Bool.false_ne_true)]
    rw [e] at q
    exact (q M h Fr3.refl).2 rfl
theorem opS_len (s : MS) : (opS s).1.lasts = s.lasts ∧ (opS s).1.waits = s.waits := by
  unfold opS
  split
  · split
    · exact ⟨rfl, rfl⟩
    · split <;> exact ⟨rfl, rfl⟩
  · exact ⟨rfl, rfl⟩
def F_Shelf_append (C_Shelf C_PowerOff : Addr) : DFX := fun RX ds M Q => ∃ p a b s r, ds = [.ref p, r] ∧ ShAt C_Shelf M p a b s ∧ s.waits.length ≤ 1000 ∧ ∀ M', ShAt C_Shelf M' p a b (appS r s).1 → Fr3 M M' p a b → ((appS r s).2 = true → Q .non M') ∧ ((appS r s).2 = false → RX (.ref C_PowerOff) none M')
theorem len_Shelf_append : ∀ RX ds M R, F_Shelf_append C_Shelf C_PowerOff RX ds M R → ds.length = ["self", "record"].length := by
  rintro _ _ _ _ ⟨p, a, b, s, r, rfl, _⟩
  rfl
abbrev s_Shelf_append : Stmt := inClass (top 6) 2
theorem sc_Shelf_append : FnScope ["self", "record"] ["self", "record"] (defScope s_Shelf_append) := ⟨rfl, rfl, rfl, by decide +kernel, rfl, by decide +kernel, by decide +kernel⟩
theorem ok_Shelf_append {f : Addr} {fd : FuncData} (Fn : L2.Fun K "append" "Shelf.append" s_Shelf_append f fd) (T : Tx K mg C_Shelf C_TrothError C_InvalidArgument C_PowerOff C_HouseClosed) (M_Shelf_operate : DMethX P w K mg base C_Shelf "_operate" 2 (F_Shelf_operate C_Shelf C_PowerOff)) : GkX P w K mg base 3 f fd ["self", "record"] (spDX K (F_Shelf_append C_Shelf C_PowerOff)) := by
  refine dfunX Fn sc_Shelf_append (len_Shelf_append) (fun cd A out s H E hg hr => ⟨_, _, (xs_cons (xs_expr (dx_meth0 hg M_Shelf_operate hr (dv 0)))
  (Ss.toX (ss_one (s_expr (d_bm PySem.F.plainAttrs_list PySem.F.slot_list_append PySem.F.type_list_append mt_append mt_app (d_fld (K := K) (dv 0)) (a_cons (dv 1) a_nil)))))), ?_⟩)
  rintro RX ds M R ⟨p, a, b, s, r, rfl, h, hl, q⟩
  have sz : (sizeLine : Nat) = 16777216 := by decide +kernel
  obtain ⟨dx, hp⟩ := h.r
  show (match M p with | some (.ins C dx fs) => _ | _ => False)
  rw [hp]
  refine ⟨⟨rfl, rfl⟩, p, a, b, s, rfl, h, fun M1 h1 f1 => ⟨fun e => ?_, fun e => ?_⟩⟩
  · have ea : appS r s = ({ (opS s).1 with waits := (opS s).1.waits ++ [r] }, true) := by unfold appS; rw [if_pos e]
    rw [ea] at q
    obtain ⟨dx1, hp1⟩ := h1.r
    show (match M1 p with | some (.ins C dx fs) => _ | _ => False)
    rw [hp1]
    refine ⟨T.f_waiting, ?_⟩
    show (match M1 b with | some (.lst _) => _ | _ => False)
    rw [h1.rb]
    show (match M1 b with | some (.lst xs) => _ | _ => False)
    rw [h1.rb]
    refine ⟨by rw [(opS_len s).2]; omega, ?_⟩
    refine (q _ ⟨⟨dx1, ?_⟩, ?_, mup_same, h1.ab⟩ (f1.up (.inr (.inr (.inl rfl))))).1 rfl
    · rw [mup_ne h1.pa.2]; exact hp1
    · rw [mup_ne h1.ab]; exact h1.ra
  · have ea : appS r s = ((opS s).1, false) := by unfold appS; rw [if_neg (by rw [e]; exact Bool.false_ne_true)]
    rw [ea] at q
    exact (q M1 h1 f1).2 rfl
def F_Shelf_sync (C_Shelf C_PowerOff : Addr) : DFX := fun RX ds M Q => ∃ p a b s, ds = [.ref p] ∧ ShAt C_Shelf M p a b s ∧ s.lasts.length + s.waits.length ≤ 1000 ∧ ∀ M' b', (b' = b ∨ M b' = none) → ShAt C_Shelf M' p a b' (synS s).1 → Fr3 M M' p a b → ((synS s).2 = true → Q .non M') ∧ ((synS s).2 = false → RX (.ref C_PowerOff) none M')
theorem len_Shelf_sync : ∀ RX ds M R, F_Shelf_sync C_Shelf C_PowerOff RX ds M R → ds.length = ["self"].length := by
  rintro _ _ _ _ ⟨p, a, b, s, rfl, _⟩
  rfl
abbrev s_Shelf_sync : Stmt := inClass (top 6) 3
theorem sc_Shelf_sync : FnScope ["self"] ["self"] (defScope s_Shelf_sync) := ⟨rfl, rfl, rfl, by decide +kernel, rfl, by decide +kernel, by decide +kernel⟩
theorem ok_Shelf_sync {f : Addr} {fd : FuncData} (Fn : L2.Fun K "sync" "Shelf.sync" s_Shelf_sync f fd) (T : Tx K mg C_Shelf C_TrothError C_InvalidArgument C_PowerOff C_HouseClosed) (M_Shelf_operate : DMethX P w K mg base C_Shelf "_operate" 2 (F_Shelf_operate C_Shelf C_PowerOff)) : GkX P w K mg base 3 f fd ["self"] (spDX K (F_Shelf_sync C_Shelf C_PowerOff)) := by
  refine dfunX Fn sc_Shelf_sync (len_Shelf_sync) (fun cd A out s H E hg hr => ⟨_, _, (xs_cons (xs_expr (dx_meth0 hg M_Shelf_operate hr (dv 0)))
  (Ss.toX (ss_cons (s_expr (d_bm PySem.F.plainAttrs_list PySem.F.slot_list_extend PySem.F.type_list_extend mt_extend mt_extA (d_fld (K := K) (dv 0)) (a_cons (d_fld (K := K) (dv 0)) a_nil)))
  (ss_one (s_fld (K := K) (dv 0) (d_lstM a_nil)))))), ?_⟩)
  rintro RX ds M R ⟨p, a, b, s, rfl, h, hl, q⟩
  have sz : (sizeLine : Nat) = 16777216 := by decide +kernel
  obtain ⟨dx, hp⟩ := h.r
  show (match M p with | some (.ins C dx fs) => _ | _ => False)
  rw [hp]
  refine ⟨⟨rfl, rfl⟩, p, a, b, s, rfl, h, fun M1 h1 f1 => ⟨fun e => ?_, fun e => ?_⟩⟩
  · have ea : synS s = ({ (opS s).1 with lasts := (opS s).1.lasts ++ (opS s).1.waits, waits := [] }, true) := by unfold synS; rw [if_pos e]
    rw [ea] at q
    obtain ⟨dx1, hp1⟩ := h1.r
    show (match M1 p with | some (.ins C dx fs) => _ | _ => False)
    rw [hp1]
    refine ⟨T.f_lasting, ?_⟩
    show (match M1 a with | some (.lst _) => _ | _ => False)
    rw [h1.ra]
    show (match M1 p with | some (.ins C dx fs) => _ | _ => False)
    rw [hp1]
    refine ⟨T.f_waiting, ?_⟩
    show (match M1 a with | some (.lst xs) => _ | _ => False)
    rw [h1.ra]
    show (match lsD M1 (.ref b) with | some ys => _ | none => False)
    rw [ls_ref h1.rb]
    refine ⟨by rw [(opS_len s).1, (opS_len s).2]; omega, ?_⟩
    intro b' hb'
    obtain ⟨ba, hb'⟩ := mup_none hb'
    have bp : b' ≠ p := fun z => by rw [z, hp1] at hb'; cases hb'
    have bM : M b' = none := by
      cases e : M b' with
      | none => rfl
      | some o =>
        by_cases c1 : b' = b
        · rw [c1, h1.rb] at hb'; cases hb'
        · rw [f1 b' o e bp ba c1] at hb'; cases hb'
    show (match (mup (mup M1 a _) b' (.lst [])) p with | some (.ins C dx fs) => _ | _ => False)
    rw [mup_ne (Ne.symm bp), mup_ne h1.pa.1, hp1]
    refine ⟨⟨T.f_waiting, by show 5 < 1000; decide⟩, ?_⟩
    refine (q _ b' (.inr bM) ⟨⟨dx1, by rw [mup_same]; rfl⟩, ?_, ?_, Ne.symm ba⟩ (((f1.up (.inr (.inl rfl))).up (.inr (.inr (.inr bM)))).up (.inl rfl))).1 rfl
    · rw [mup_ne (Ne.symm h1.pa.1), mup_ne (Ne.symm ba), mup_same]
    · rw [mup_ne bp, mup_same]
  · have ea : synS s = ((opS s).1, false) := by unfold synS; rw [if_neg (by rw [e]; exact Bool.false_ne_true)]
    rw [ea] at q
    exact (q M1 b (.inl rfl) h1 f1).2 rfl
def F_Shelf_fail_after (C_Shelf C_PowerOff : Addr) : DFX := fun RX ds M Q => ∃ p a b s n, ds = [.ref p, .int n] ∧ ShAt C_Shelf M p a b s ∧ ∀ M', ShAt C_Shelf M' p a b (faS n s).1 → Fr3 M M' p a b → ((faS n s).2 = true → Q .non M') ∧ ((faS n s).2 = false → RX (.ref C_PowerOff) none M')
theorem len_Shelf_fail_after : ∀ RX ds M R, F_Shelf_fail_after C_Shelf C_PowerOff RX ds M R → ds.length = ["self", "operations"].length := by
  rintro _ _ _ _ ⟨p, a, b, s, n, rfl, _⟩
  rfl
abbrev s_Shelf_fail_after : Stmt := inClass (top 6) 5
theorem sc_Shelf_fail_after : FnScope ["self", "operations"] ["self", "operations"] (defScope s_Shelf_fail_after) := ⟨rfl, rfl, rfl, by decide +kernel, rfl, by decide +kernel, by decide +kernel⟩
theorem ok_Shelf_fail_after {f : Addr} {fd : FuncData} (Fn : L2.Fun K "fail_after" "Shelf.fail_after" s_Shelf_fail_after f fd) (T : Tx K mg C_Shelf C_TrothError C_InvalidArgument C_PowerOff C_HouseClosed) (M_Shelf_need_power : DMethX P w K mg base C_Shelf "_need_power" 1 (F_Shelf_need_power C_Shelf C_PowerOff)) : GkX P w K mg base 2 f fd ["self", "operations"] (spDX K (F_Shelf_fail_after C_Shelf C_PowerOff)) := by
  refine dfunX Fn sc_Shelf_fail_after (len_Shelf_fail_after) (fun cd A out s H E hg hr => ⟨_, _, (xs_cons (xs_expr (dx_meth0 hg M_Shelf_need_power hr (dv 0)))
  (Ss.toX (ss_one (s_fld (K := K) (dv 0) (dv 1))))), ?_⟩)
  rintro RX ds M R ⟨p, a, b, s, n, rfl, h, q⟩
  obtain ⟨dx, hp⟩ := h.r
  show (match M p with | some (.ins C dx fs) => _ | _ => False)
  rw [hp]
  refine ⟨⟨rfl, rfl⟩, p, a, b, s, rfl, h, fun on => ?_, fun off => ?_⟩
  · have ea : faS n s = ({ s with fuse := some n }, true) := by unfold faS; rw [if_pos on]
    rw [ea] at q
    show (match M p with | some (.ins C dx fs) => _ | _ => False)
    rw [hp]
    refine ⟨⟨T.f_left, by show 5 < 1000; decide⟩, ?_⟩
    exact (q _ (h.put (s' := { s with fuse := some n }) rfl rfl) (Fr3.refl.up (.inl rfl))).1 rfl
  · have ea : faS n s = (s, false) := by unfold faS; rw [if_neg (by rw [off]; exact Bool.false_ne_true)]
    rw [ea] at q
    exact (q M h Fr3.refl).2 rfl
end
end Vk
set_option linter.unusedVariables false
set_option linter.unusedSimpArgs false
namespace Vk
open PySem PySem.Spec PyProof.Rows L2
theorem ix_go {M : MH} {q : Addr} {xs : List Dv} {j : Int} {d : Dv} (hm : M q = some (.lst xs)) (h : atI xs j = some d) (T : Dv → Prop) (t : T d) : (match M q with | some (.lst ds) => (match atI ds j with | some d => T d | none => False) | _ => False) := by
  rw [hm]
  show (match atI xs j with | some d => T d | none => False)
  rw [h]
  exact t
/-- the state of the draws: its list at L -/
structure StK (M : MH) (q L : Addr) : Prop where
  ex : ∃ (ns : List Int) (x y : Int), M q = some (.lst [.ref L, .int x, .int y]) ∧ M L = some (.lst (ns.map .int)) ∧ ns.length ≤ 63 ∧ 0 ≤ x ∧ 0 ≤ y ∧ y < 2147483647
  ne : q ≠ L
theorem laid_int (n : Int) : laidD (.int n) = true := rfl
theorem ints_shp (ns : List Int) : shp (.lst (ns.map Dv.int)) = true := shp_lst fun d hd => by
  obtain ⟨n, _, rfl⟩ := List.mem_map.mp hd
  rfl
theorem neL_go {x y : Dv} {ds es : List Dv} {M : MH} {Q : DK} (h1 : lsD M x = some ds) (h2 : lsD M y = some es) (s1 : shp (.lst ds) = true) (s2 : shp (.lst es) = true) (q : Q (.bl (!PyData.eqv (toP (.lst ds)) (toP (.lst es)))) M) : gEqL (fun b => !b) x y M Q := by
  unfold gEqL
  rw [h1, h2]
  exact ⟨s1, s2, q⟩
section
variable {P : Program} {w : World} {K : PySem.W.Frag} {mg : Str → Option Value} {base : Heap} {C_Shelf C_TrothError C_InvalidArgument C_PowerOff C_HouseClosed : Addr}
def F_state : DF := fun ds M Q => ∃ ns, ds = [.scr ns] ∧ ns.length ≤ 63 ∧ ∀ q L M', StK M' q L → M q = none → M L = none → (∀ u o, M u = some o → M' u = some o) → Q (.ref q) M'
theorem len_state : ∀ ds M R, F_state ds M R → ds.length = ["script"].length := by
  rintro _ _ _ ⟨ns, rfl, _⟩
  rfl
abbrev s_state : Stmt := top 8
theorem sc_state : FnScope ["script"] ["script"] (defScope s_state) := ⟨rfl, rfl, rfl, by decide +kernel, rfl, by decide +kernel, by decide +kernel⟩
theorem ok_state {f : Addr} {fd : FuncData} (Fn : L2.Fun K "_law_state" "_law_state" s_state f fd) (T : Tx K mg C_Shelf C_TrothError C_InvalidArgument C_PowerOff C_HouseClosed) : Gk P w K mg base 1 f fd ["script"] (spD K F_state) := by
  refine dfun Fn sc_state (len_state) (fun cd A out s H E hg hr => ⟨_, _, (ss_one (s_ret (d_lstM (a_cons (d_cty (k_listM (K := K)) (by rfl) T.list (by decide +kernel) (a_cons (dv 0) a_nil)) (a_cons d_int (a_cons d_int a_nil)))))), ?_⟩)
  rintro ds M R ⟨ns, rfl, hl, k⟩
  intro L hL q hq
  obtain ⟨qL, hq⟩ := mup_none hq
  exact k q L _ ⟨⟨ns, 0, 7, mup_same, by rw [mup_ne (Ne.symm qL), mup_same], hl, by decide, by decide, by decide⟩, qL⟩ hq hL (fun u o h => by
    rw [mup_ne (fun z => by subst z; rw [hq] at h; cases h), mup_ne (fun z => by subst z; rw [hL] at h; cases h)]; exact h)
def F_pick : DF := fun ds M Q => ∃ q L m, ds = [.ref q, .int m] ∧ StK M q L ∧ 0 < m ∧ m < 1000 ∧ ∀ v M', 0 ≤ v → v < m → StK M' q L → (∀ u o, M u = some o → u ≠ q → u ≠ L → M' u = some o) → Q (.int v) M'
theorem len_pick : ∀ ds M R, F_pick ds M R → ds.length = ["state", "many"].length := by
  rintro _ _ _ ⟨q, L, m, rfl, _⟩
  rfl
abbrev s_pick : Stmt := top 9
theorem sc_pick : FnScope ["state", "many", "cell", "picked", "mixed"] ["state", "many"] (defScope s_pick) := ⟨rfl, rfl, rfl, by decide +kernel, rfl, by decide +kernel, by decide +kernel⟩
theorem ok_pick {f : Addr} {fd : FuncData} (Fn : L2.Fun K "_law_pick" "_law_pick" s_pick f fd) (T : Tx K mg C_Shelf C_TrothError C_InvalidArgument C_PowerOff C_HouseClosed) : Gk P w K mg base 1 f fd ["state", "many"] (spD K F_pick) := by
  refine dfun Fn sc_pick (len_pick) (fun cd A out s H E hg hr => ⟨_, _, (ss_cons (s_if (Tw.ts (w_and (t_cmp o_le (k_ix (K := K) (dv 0) d_int) d_int (nomark _)) (w_and1 (t_cmp (o_neL hr.units) (k_ix (K := K) (dv 0) d_int) (d_lst a_nil) (nomark _))))) (ss_cons (s_set (i := 2) sc_pick.nd rfl (Or.inl rfl) (d_bm PySem.F.plainAttrs_list PySem.F.slot_list_pop PySem.F.type_list_pop mt_popAt mt_pop0 (k_ix (K := K) (dv 0) d_int) (a_cons d_int a_nil)))
  (ss_one (s_if (t_cmp o_ge (dv 2) (d_op o_pow d_int d_int) (nomark _)) (ss_one (s_put (d_op o_minus (dv 2) (d_op o_pow d_int d_int)) (dv 0) d_int (fun p1 p2 p3 => ps_asg p1 (pg_sub p2 p3 set_list)))) (ss_one (s_put (d_op o_mod (d_cty c_int (by rfl) T.int (by decide +kernel) (a_cons (d_op (k_add (K := K)) (d_op (k_mul (K := K)) (k_ix (K := K) (dv 0) d_int) d_int) (dv 2)) a_nil)) d_int) (dv 0) d_int (fun p1 p2 p3 => ps_asg p1 (pg_sub p2 p3 set_list))))))) ss_nil)
  (ss_cons (s_if (t_cmp o_gt (k_ix (K := K) (dv 0) d_int) d_int (nomark _)) (ss_cons (s_set (i := 3) sc_pick.nd rfl (Or.inl rfl) (d_op o_mod (d_cty c_int (by rfl) T.int (by decide +kernel) (a_cons (k_ix (K := K) (dv 0) d_int) a_nil)) (dv 1)))
  (ss_cons (s_put (d_op o_fdiv (k_ix (K := K) (dv 0) d_int) (dv 1)) (dv 0) d_int (fun p1 p2 p3 => ps_asg p1 (pg_sub p2 p3 set_list)))
  (ss_one (s_ret (dv 3))))) ss_nil)
  (ss_cons (s_put (d_op o_mod (d_cty c_int (by rfl) T.int (by decide +kernel) (a_cons (d_op (k_add (K := K)) (d_op (k_mul (K := K)) (k_ix (K := K) (dv 0) d_int) d_int) d_int) a_nil)) d_int) (dv 0) d_int (fun p1 p2 p3 => ps_asg p1 (pg_sub p2 p3 set_list)))
  (ss_cons (s_set (i := 4) sc_pick.nd rfl (Or.inl rfl) (d_op o_mod (d_cty c_int (by rfl) T.int (by decide +kernel) (a_cons (d_op (k_add (K := K)) (d_op (k_mul (K := K)) (k_ix (K := K) (dv 0) d_int) d_int) (d_op o_fdiv (k_ix (K := K) (dv 0) d_int) d_int)) a_nil)) d_int))
  (ss_one (s_ret (d_op o_mod (d_cty c_int (by rfl) T.int (by decide +kernel) (a_cons (d_op o_fdiv (dv 4) d_int) a_nil)) (dv 1)))))))), ?_⟩)
  rintro ds M R ⟨q, L, m, rfl, st, m0, m1, k⟩
  obtain ⟨⟨ns, x, y, hq, hL, hl, hx, hy, hy2⟩, qL⟩ := st
  have sz : (sizeLine : Nat) = 16777216 := by decide +kernel
  dsimp only [dNext, dSeq]
  refine ifS_key (fun e m' => ∃ x2, e = [some (.ref q), some (.int m), x2, none, none] ∧ StK m' q L ∧ (∀ u o, M u = some o → u ≠ q → u ≠ L → m' u = some o)) (fun nx key => ?_) ?_
  · have stay : nx [some (.ref q), some (.int m), none, none, none] M := key _ _ ⟨_, rfl, ⟨⟨ns, x, y, hq, hL, hl, hx, hy, hy2⟩, qL⟩, fun _ _ h _ _ => h⟩
    refine ix_go hq rfl _ ?_
    show (if decide (x ≤ 1) = true then _ else _)
    refine iteB (fun h => ?_) (fun h => stay)
    refine ix_go hq rfl _ ?_
    refine neL_go (es := []) (ls_ref hL) (show lsD M (.lst []) = some [] from rfl) (ints_shp ns) rfl ?_
    cases ns with
    | nil => exact stay
    | cons c r =>
      show (match M q with | some (.lst ds) => _ | _ => False)
      refine ix_go hq rfl _ ?_
      show (match M L with | some (.lst _) => _ | _ => False)
      rw [hL]
      show (match M L with | some (.lst xs) => _ | _ => False)
      rw [hL]
      refine ⟨rfl, by rw [List.length_map]; show _ ≤ sizeLine; omega, ?_⟩
      have hq1 : (mup M L (.lst (r.map Dv.int))) q = some (.lst [.ref L, .int x, .int y]) := by rw [mup_ne qL]; exact hq
      have hl2 : r.length ≤ 63 := by simp at hl; omega
      refine ⟨⟨by decide, by decide, by decide⟩, ?_⟩
      show (if decide (c ≥ 10 ^ (18 : Int).toNat) = true then _ else _)
      have fr : ∀ z, ∀ u o, M u = some o → u ≠ q → u ≠ L → (mup (mup M L (.lst (r.map Dv.int))) q z) u = some o := fun z u o h h1 h2 => by rw [mup_ne h1, mup_ne h2]; exact h
      refine iteB (fun h3 => ?_) (fun h3 => ?_)
      · have hc : (10 : Int) ^ 18 ≤ c := of_decide_eq_true h3
        refine ⟨⟨by decide, by decide, by decide⟩, ?_⟩
        show (match (mup M L (.lst (r.map Dv.int))) q with | some (.lst xs) => _ | _ => False)
        rw [hq1]
        refine key _ _ ⟨_, rfl, ⟨⟨r, c - 10 ^ 18, y, mup_same, by rw [mup_ne (Ne.symm qL), mup_same], hl2, by omega, hy, hy2⟩, qL⟩, fr _⟩
      · refine ix_go hq1 rfl _ ?_
        refine ⟨.inr ⟨by decide, by decide⟩, by show (0 : Int) < 2147483647; decide, ?_⟩
        show (match (mup M L (.lst (r.map Dv.int))) q with | some (.lst xs) => _ | _ => False)
        rw [hq1]
        refine key _ _ ⟨_, rfl, ⟨⟨r, x, _, mup_same, by rw [mup_ne (Ne.symm qL), mup_same], hl2, hx, Int.emod_nonneg _ (by decide), Int.emod_lt_of_pos _ (by decide)⟩, qL⟩, fr _⟩
  · rintro e m' ⟨x2, rfl, st', fr⟩
    obtain ⟨⟨ns, x, y, hq, hL, hl, hx, hy, hy2⟩, _⟩ := st'
    refine ix_go hq rfl _ ?_
    show (if decide (x > 1) = true then _ else _)
    refine iteB (fun h => ?_) (fun h => ?_)
    · refine ix_go hq rfl _ ?_
      refine ⟨m0, ?_⟩
      refine ix_go hq rfl _ ?_
      refine ⟨⟨m0, by omega⟩, ?_⟩
      show (match m' q with | some (.lst xs) => _ | _ => False)
      rw [hq]
      exact k _ _ (Int.emod_nonneg _ (by omega)) (Int.emod_lt_of_pos _ m0) ⟨⟨ns, _, y, mup_same, by rw [mup_ne (Ne.symm qL)]; exact hL, hl, Int.ediv_nonneg hx (by omega), hy, hy2⟩, qL⟩ (fun u o h h1 h2 => by rw [mup_ne h1]; exact fr u o h h1 h2)
    · refine ix_go hq rfl _ ?_
      refine ⟨.inr ⟨by decide, by decide⟩, by show (0 : Int) < 2147483647; decide, ?_⟩
      show (match m' q with | some (.lst xs) => _ | _ => False)
      rw [hq]
      refine ix_go mup_same rfl _ ?_
      refine ⟨.inr ⟨by decide, by decide⟩, ?_⟩
      refine ix_go mup_same rfl _ ?_
      refine ⟨⟨by decide, by decide⟩, by show (0 : Int) < 2147483629; decide, ⟨by decide, by decide⟩, m0, ?_⟩
      exact k _ _ (Int.emod_nonneg _ (by omega)) (Int.emod_lt_of_pos _ m0) ⟨⟨ns, x, _, mup_same, by rw [mup_ne (Ne.symm qL)]; exact hL, hl, hx, Int.emod_nonneg _ (by decide), Int.emod_lt_of_pos _ (by decide)⟩, qL⟩ (fun u o h h1 h2 => by rw [mup_ne h1]; exact fr u o h h1 h2)
/-! the model -/
def mdF (s : MS) : List (L2.Key × Dv) := [(.inr "lasts", .lst s.lasts), (.inr "waits", .lst s.waits), (.inr "on", .bl s.on), (.inr "fuse", optD s.fuse), (.inr "losses", .int s.losses)]
theorem at_md {M : MH} {q : Addr} {s : MS} (h : M q = some (.dK (mdF s))) (k : Str) : dictAt M (.ref q) (.str k) = some (q, mdF s, .inr k) := by
  unfold dictAt
  simp only [h, keyOf]
def F_lose : DF := fun ds M Q => ∃ q s, ds = [.ref q] ∧ M q = some (.dK (mdF s)) ∧ Q .non (mup M q (.dK (mdF s.fail)))
theorem len_lose : ∀ ds M R, F_lose ds M R → ds.length = ["model"].length := by
  rintro _ _ _ ⟨q, s, rfl, _⟩
  rfl
abbrev s_lose : Stmt := top 10
theorem sc_lose : FnScope ["model"] ["model"] (defScope s_lose) := ⟨rfl, rfl, rfl, by decide +kernel, rfl, by decide +kernel, by decide +kernel⟩
theorem ok_lose {f : Addr} {fd : FuncData} (Fn : L2.Fun K "_law_lose" "_law_lose" s_lose f fd) (T : Tx K mg C_Shelf C_TrothError C_InvalidArgument C_PowerOff C_HouseClosed) : Gk P w K mg base 1 f fd ["model"] (spD K F_lose) := by
  refine dfun Fn sc_lose (len_lose) (fun cd A out s H E hg hr => ⟨_, _, (ss_cons (s_dput hr.units (dv 0) d_str d_bl)
  (ss_cons (s_daug hr.units ip_add (dv 0) d_str d_int)
  (ss_one (s_dput hr.units (dv 0) d_str d_non)))), ?_⟩)
  rintro ds M R ⟨q, s, rfl, h, k⟩
  have sz : (sizeLine : Nat) = 16777216 := by decide +kernel
  show (match dictAt M (.ref q) (.str "on") with | some (p, kds, k) => _ | none => False)
  rw [at_md h]
  refine ⟨by show 5 < sizeLine; omega, ?_⟩
  have h1 : (mup M q (.dK (mdF { s with on := false }))) q = some (.dK (mdF { s with on := false })) := mup_same
  show (match dictAt (mup M q (.dK (mdF { s with on := false }))) (.ref q) (.str "losses") with | some (p, kds, k) => _ | none => False)
  rw [at_md h1]
  show (match Dv.int 1, dictAt (mup M q (.dK (mdF { s with on := false }))) (.ref q) (.str "losses") with | .int j, some (p, kds', k') => _ | _, _ => False)
  rw [at_md h1]
  refine ⟨by show 5 < sizeLine; omega, ?_⟩
  have h2 : (mup (mup M q (.dK (mdF { s with on := false }))) q (.dK (mdF { s with on := false, losses := s.losses + 1 }))) q = some (.dK (mdF { s with on := false, losses := s.losses + 1 })) := mup_same
  show (match dictAt (mup (mup M q (.dK (mdF { s with on := false }))) q (.dK (mdF { s with on := false, losses := s.losses + 1 }))) (.ref q) (.str "fuse") with | some (p, kds, k) => _ | none => False)
  rw [at_md h2]
  refine ⟨by show 5 < sizeLine; omega, ?_⟩
  rw [mup_mup, mup_mup]
  exact k
def F_operates : DF := fun ds M Q => ∃ q s, ds = [.ref q] ∧ M q = some (.dK (mdF s)) ∧ (∀ n, s.fuse = some n → 0 ≤ n) ∧ Q (.bl (opS s).2) (mup M q (.dK (mdF (opS s).1)))
theorem len_operates : ∀ ds M R, F_operates ds M R → ds.length = ["model"].length := by
  rintro _ _ _ ⟨q, s, rfl, _⟩
  rfl
theorem dget_go {M : MH} {q : Addr} {s : MS} {k : Str} {d : Dv} (h : M q = some (.dK (mdF s))) (e : valD (mdF s) (.inr k) = some d) (T : Dv → Prop) (t : T d) : (match dictAt M (.ref q) (.str k) with
    | some (_, kds, k) => (match valD kds k with | some d => T d | none => False)
    | none => False) := by
  rw [at_md h]
  show (match valD (mdF s) (.inr k) with | some d => T d | none => False)
  rw [e]
  exact t
abbrev s_operates : Stmt := top 11
theorem sc_operates : FnScope ["model"] ["model"] (defScope s_operates) := ⟨rfl, rfl, rfl, by decide +kernel, rfl, by decide +kernel, by decide +kernel⟩
theorem ok_operates {f : Addr} {fd : FuncData} (Fn : L2.Fun K "_law_operates" "_law_operates" s_operates f fd) (T : Tx K mg C_Shelf C_TrothError C_InvalidArgument C_PowerOff C_HouseClosed) (C_lose : DCal P w K mg base "_law_lose" 1 F_lose) : Gk P w K mg base 2 f fd ["model"] (spD K F_operates) := by
  refine dfun Fn sc_operates (len_operates) (fun cd A out s H E hg hr => ⟨_, _, (ss_cons (s_if (Tw.ts (w_and (t_val (d_dget hr.units (dv 0) d_str (fun _ _ => rfl))) (w_and1 (t_cmp (k_eq (K := K) hr.units) (d_dget hr.units (dv 0) d_str (fun _ _ => rfl)) d_int (nomark _))))) (ss_one (s_expr (k_call (K := K) hg C_lose hr rfl (a_cons (dv 0) a_nil)))) (ss_one (s_if (Tw.ts (w_and (t_val (d_dget hr.units (dv 0) d_str (fun _ _ => rfl))) (w_and1 (t_cmp o_notN (d_dget hr.units (dv 0) d_str (fun _ _ => rfl)) d_non (nomark _))))) (ss_one (s_daug hr.units ip_sub (dv 0) d_str d_int)) ss_nil)))
  (ss_one (s_ret (d_dget hr.units (dv 0) d_str (fun _ _ => rfl))))), ?_⟩)
  rintro ds M R ⟨q, s, rfl, h, nn, k⟩
  have sz : (sizeLine : Nat) = 16777216 := by decide +kernel
  dsimp only [dNext, dSeq, dDrop]
  refine ifS_key (fun e m' => e = [some (.ref q)] ∧ (opS s).1.on = (opS s).2 ∧ m' = mup M q (.dK (mdF (opS s).1))) (fun nx key => ?_) ?_
  · refine dget_go h rfl _ ?_
    show (if s.on = true then _ else _)
    refine iteB (fun on => ?_) (fun off => ?_)
    · refine dget_go h rfl _ ?_
      cases hf : s.fuse with
      | none =>
        have e : opS s = (s, true) := by unfold opS; rw [if_pos on, hf]
        rw [e] at key
        have stay : nx [some (.ref q)] M := key _ _ ⟨rfl, on, (mup_id h).symm⟩
        refine dget_go h rfl _ ?_
        show (if s.on = true then _ else _)
        refine iteBT on ?_
        exact dget_go (d := .non) h (by show some (optD s.fuse) = _; rw [hf]; rfl) _ stay
      | some n =>
        have n0 := nn n hf
        show (if decide (n = 0) = true then _ else _)
        refine iteB (fun z => ?_) (fun z => ?_)
        · have z := of_decide_eq_true z
          have e : opS s = (s.fail, false) := by unfold opS; rw [if_pos on, hf]; show (if n ≤ 0 then _ else _) = _; rw [if_pos (by omega)]
          rw [e] at key
          exact ⟨q, s, rfl, h, key _ _ ⟨rfl, rfl, rfl⟩⟩
        · have z := of_decide_eq_false z
          have e : opS s = ({ s with fuse := some (n - 1) }, true) := by unfold opS; rw [if_pos on, hf]; show (if n ≤ 0 then _ else _) = _; rw [if_neg (by omega)]
          rw [e] at key
          refine dget_go h rfl _ ?_
          show (if s.on = true then _ else _)
          refine iteBT on ?_
          refine dget_go (d := .int n) h (by show some (optD s.fuse) = _; rw [hf]; rfl) _ ?_
          show (match dictAt M (.ref q) (.str "fuse") with | some (_, kds, k) => _ | none => False)
          rw [at_md h]
          have ev : valD (mdF s) (.inr "fuse") = some (.int n) := by show some (optD s.fuse) = _; rw [hf]; rfl
          show (match valD (mdF s) (.inr "fuse") with | some (.int n) => _ | _ => False)
          rw [ev]
          show (match Dv.int 1, dictAt M (.ref q) (.str "fuse") with | .int j, some (p, kds', k') => _ | _, _ => False)
          rw [at_md h]
          exact ⟨by show 5 < sizeLine; omega, key _ _ ⟨rfl, on, rfl⟩⟩
    · have e : opS s = (s, false) := by unfold opS; rw [if_neg (by rw [off]; exact Bool.false_ne_true)]
      rw [e] at key
      have stay : nx [some (.ref q)] M := key _ _ ⟨rfl, off, (mup_id h).symm⟩
      refine dget_go h rfl _ ?_
      show (if s.on = true then _ else _)
      exact iteBF off stay
  · rintro e m' ⟨rfl, e2, rfl⟩
    refine dget_go mup_same rfl _ ?_
    rw [e2]
    exact k
end
end Vk
set_option linter.unusedVariables false
set_option linter.unusedSimpArgs false
namespace Vk
open PySem PySem.Spec PyProof.Rows L2
def offD (b : Bool) : Dv := if b = true then .non else .str "off"
def U_told (K : PySem.W.Frag) (C_TrothError C_InvalidArgument C_HouseClosed : Addr) : DSu := fun a cls d => dSeq (dSet 6 (dOr (dCB (gIsEx K a cls d) (dACons (dV 5) (dACons (dC (.ref C_HouseClosed)) dANil))) (dCB (gIsEx K a cls d) (dACons (dV 5) (dACons (dC (.ref C_InvalidArgument)) dANil))))) (dRet (dOp gIx (dLst (dACons (dC (.str "wrong")) (dACons (dC (.str "off")) dANil))) (dCB gInt (dACons (dAnd (dCB (gIsEx K a cls d) (dACons (dV 5) (dACons (dC (.ref C_TrothError)) dANil))) (dAnd (dCB (gIsEx K a cls d) (dACons (dV 5) (dACons (dC (.ty "ValueError")) dANil))) (dNot (dV 6)))) dANil))))
section
variable {P : Program} {w : World} {K : PySem.W.Frag} {mg : Str → Option Value} {base : Heap} {C_Shelf C_TrothError C_InvalidArgument C_PowerOff C_HouseClosed : Addr}
def F_due : DF := fun ds M Q => ∃ q s deed n r, ds = [.ref q, .int deed, .int n, r] ∧ M q = some (.dK (mdF s)) ∧ (∀ n, s.fuse = some n → 0 ≤ n) ∧ 0 ≤ n ∧ s.lasts.length + s.waits.length ≤ 1000 ∧ Q (offD (stepS deed n r s).2) (mup M q (.dK (mdF (stepS deed n r s).1)))
theorem len_due : ∀ ds M R, F_due ds M R → ds.length = ["model", "deed", "number", "record"].length := by
  rintro _ _ _ ⟨q, s, deed, n, r, rfl, _⟩
  rfl
theorem dput_go {M : MH} {q : Addr} {s : MS} {k : Str} (h : M q = some (.dK (mdF s))) (T : Addr → List (L2.Key × Dv) → L2.Key → Prop) (t : T q (mdF s) (.inr k)) : (match dictAt M (.ref q) (.str k) with
    | some (p, kds, k) => kds.length < sizeLine ∧ T p kds k
    | none => False) := by
  rw [at_md h]
  have sz : (sizeLine : Nat) = 16777216 := by decide +kernel
  exact ⟨by show 5 < sizeLine; omega, t⟩
abbrev s_due : Stmt := top 12
theorem sc_due : FnScope ["model", "deed", "number", "record"] ["model", "deed", "number", "record"] (defScope s_due) := ⟨rfl, rfl, rfl, by decide +kernel, rfl, by decide +kernel, by decide +kernel⟩
theorem ok_due {f : Addr} {fd : FuncData} (Fn : L2.Fun K "_law_due" "_law_due" s_due f fd) (T : Tx K mg C_Shelf C_TrothError C_InvalidArgument C_PowerOff C_HouseClosed) (C_operates : DCal P w K mg base "_law_operates" 2 F_operates) (C_lose : DCal P w K mg base "_law_lose" 1 F_lose) : Gk P w K mg base 3 f fd ["model", "deed", "number", "record"] (spD K F_due) := by
  refine dfun Fn sc_due (len_due) (fun cd A out s H E hg hr => ⟨_, _, (ss_cons (s_if (t_cmp o_le (dv 1) d_int (nomark _)) (ss_cons (s_if (t_not (t_val (k_call (K := K) hg C_operates hr rfl (a_cons (dv 0) a_nil)))) (ss_one (s_ret d_str)) ss_nil)
  (ss_one (s_dput hr.units (dv 0) d_str (d_op (k_add (K := K)) (d_dget hr.units (dv 0) d_str (fun _ _ => rfl)) (d_lst (a_cons (dv 3) a_nil)))))) (ss_one (s_if (t_cmp o_le (dv 1) d_int (nomark _)) (ss_cons (s_if (t_not (t_val (k_call (K := K) hg C_operates hr rfl (a_cons (dv 0) a_nil)))) (ss_one (s_ret d_str)) ss_nil)
  (ss_cons (s_dput hr.units (dv 0) d_str (d_op (k_add (K := K)) (d_dget hr.units (dv 0) d_str (fun _ _ => rfl)) (d_dget hr.units (dv 0) d_str (fun _ _ => rfl))))
  (ss_one (s_dput hr.units (dv 0) d_str (d_lst a_nil))))) (ss_one (s_if (t_cmp (k_eq (K := K) hr.units) (dv 1) d_int (nomark _)) (ss_cons (s_if (t_not (t_val (d_dget hr.units (dv 0) d_str (fun _ _ => rfl)))) (ss_one (s_ret d_str)) ss_nil)
  (ss_one (s_dput hr.units (dv 0) d_str (dv 2)))) (ss_cons (s_if (t_val (d_dget hr.units (dv 0) d_str (fun _ _ => rfl))) (ss_one (s_expr (k_call (K := K) hg C_lose hr rfl (a_cons (dv 0) a_nil)))) ss_nil)
  (ss_cons (s_dput hr.units (dv 0) d_str (d_op (k_add (K := K)) (d_dget hr.units (dv 0) d_str (fun _ _ => rfl)) (k_slice (K := K) (d_dget hr.units (dv 0) d_str (fun _ _ => rfl)) p_none (p_some (dv 2)))))
  (ss_cons (s_dput hr.units (dv 0) d_str (d_lst a_nil))
  (ss_one (s_dput hr.units (dv 0) d_str d_bl))))))))))
  (ss_one (s_ret d_non))), ?_⟩)
  rintro ds M R ⟨q, s, deed, n, r, rfl, h, nn, n0, hl, k⟩
  have sz : (sizeLine : Nat) = 16777216 := by decide +kernel
  obtain ⟨ol, ow⟩ := opS_len s
  show (if decide (deed ≤ 3) = true then _ else _)
  refine iteB (fun d3 => ?_) (fun d3 => ?_)
  · have d3 := of_decide_eq_true d3
    have es : stepS deed n r s = appS r s := by unfold stepS; rw [if_pos d3]
    rw [es] at k
    refine ⟨q, s, rfl, h, nn, ?_⟩
    show (if (!(opS s).2) = true then _ else _)
    refine iteB (fun e => ?_) (fun e => ?_)
    · have e : (opS s).2 = false := by simpa using e
      have ea : appS r s = ((opS s).1, false) := by unfold appS; rw [if_neg (by rw [e]; exact Bool.false_ne_true)]
      rw [ea] at k
      exact k
    · have e : (opS s).2 = true := by simpa using e
      have ea : appS r s = ({ (opS s).1 with waits := (opS s).1.waits ++ [r] }, true) := by unfold appS; rw [if_pos e]
      rw [ea] at k
      refine dget_go mup_same rfl _ ?_
      refine ⟨by rw [ow]; show _ + 1 ≤ sizeLine; omega, ?_⟩
      refine dput_go mup_same _ ?_
      rw [mup_mup]
      exact k
  · have d3 := of_decide_eq_false d3
    show (if decide (deed ≤ 5) = true then _ else _)
    refine iteB (fun d5 => ?_) (fun d5 => ?_)
    · have d5 := of_decide_eq_true d5
      have es : stepS deed n r s = synS s := by unfold stepS; rw [if_neg d3, if_pos d5]
      rw [es] at k
      refine ⟨q, s, rfl, h, nn, ?_⟩
      show (if (!(opS s).2) = true then _ else _)
      refine iteB (fun e => ?_) (fun e => ?_)
      · have e : (opS s).2 = false := by simpa using e
        have ea : synS s = ((opS s).1, false) := by unfold synS; rw [if_neg (by rw [e]; exact Bool.false_ne_true)]
        rw [ea] at k
        exact k
      · have e : (opS s).2 = true := by simpa using e
        have ea : synS s = ({ (opS s).1 with lasts := (opS s).1.lasts ++ (opS s).1.waits, waits := [] }, true) := by unfold synS; rw [if_pos e]
        rw [ea] at k
        refine dget_go mup_same rfl _ ?_
        refine dget_go mup_same rfl _ ?_
        refine ⟨by rw [ol, ow]; omega, ?_⟩
        refine dput_go mup_same _ ?_
        rw [mup_mup]
        refine dput_go (s := { (opS s).1 with lasts := (opS s).1.lasts ++ (opS s).1.waits }) mup_same _ ?_
        rw [mup_mup]
        exact k
    · have d5 := of_decide_eq_false d5
      show (if decide (deed = 6) = true then _ else _)
      refine iteB (fun d6 => ?_) (fun d6 => ?_)
      · have d6 := of_decide_eq_true d6
        have es : stepS deed n r s = faS n s := by unfold stepS; rw [if_neg d3, if_neg d5, if_pos d6]
        rw [es] at k
        refine dget_go h rfl _ ?_
        show (if (!s.on) = true then _ else _)
        refine iteB (fun e => ?_) (fun e => ?_)
        · have e : s.on = false := by simpa using e
          have ea : faS n s = (s, false) := by unfold faS; rw [if_neg (by rw [e]; exact Bool.false_ne_true)]
          rw [ea, mup_id h] at k
          exact k
        · have e : s.on = true := by simpa using e
          have ea : faS n s = ({ s with fuse := some n }, true) := by unfold faS; rw [if_pos e]
          rw [ea] at k
          refine dput_go h _ ?_
          exact k
      · have d6 := of_decide_eq_false d6
        have es : stepS deed n r s = (powS n s, true) := by unfold stepS; rw [if_neg d3, if_neg d5, if_neg d6]
        rw [es] at k
        have ll : (offS s).lasts.length + (offS s).waits.length ≤ 1000 := by unfold offS; split <;> exact hl
        dsimp only [dSeq, dDrop]
        refine ifS_key (fun e m' => e = [some (.ref q), some (.int deed), some (.int n), some r] ∧ m' = mup M q (.dK (mdF (offS s)))) (fun nx key => ?_) ?_
        · refine dget_go h rfl _ ?_
          show (if s.on = true then _ else _)
          refine iteB (fun e => ?_) (fun e => ?_)
          · refine ⟨q, s, rfl, h, key _ _ ⟨rfl, ?_⟩⟩
            unfold offS
            rw [if_pos e]
          · refine key _ _ ⟨rfl, ?_⟩
            unfold offS
            rw [if_neg (by rw [e]; exact Bool.false_ne_true), mup_id h]
        · rintro e m' ⟨rfl, rfl⟩
          refine dget_go mup_same rfl _ ?_
          refine dget_go mup_same rfl _ ?_
          obtain ⟨n', rfl⟩ : ∃ n' : Nat, n = (n' : Int) := ⟨n.toNat, by omega⟩
          refine ⟨by rw [cut_to, List.length_take]; omega, ?_⟩
          refine dput_go mup_same _ ?_
          rw [mup_mup, cut_to]
          refine dput_go (s := { offS s with lasts := (offS s).lasts ++ (offS s).waits.take n' }) mup_same _ ?_
          rw [mup_mup]
          refine dput_go (s := { offS s with lasts := (offS s).lasts ++ (offS s).waits.take n', waits := [] }) mup_same _ ?_
          rw [mup_mup]
          exact k
def F_told (C_Shelf C_PowerOff : Addr) : DF := fun ds M Q => ∃ p a b s deed n r, ds = [.ref p, .int deed, .int n, r] ∧ ShAt C_Shelf M p a b s ∧ 0 ≤ n ∧ s.lasts.length + s.waits.length ≤ 1000 ∧
  ∀ M' b', (b' = b ∨ M b' = none) → ShAt C_Shelf M' p a b' (stepS deed n r s).1 → Fr3 M M' p a b → Q (offD (stepS deed n r s).2) M'
theorem len_told : ∀ ds M R, F_told C_Shelf C_PowerOff ds M R → ds.length = ["shelf", "deed", "number", "record"].length := by
  rintro _ _ _ ⟨p, a, b, s, deed, n, r, rfl, _⟩
  rfl
theorem suite_told (T : Tx K mg C_Shelf C_TrothError C_InvalidArgument C_PowerOff C_HouseClosed) {a0 : Addr} {M' : MH} {E : DEnds} {v0 v1 v2 v3 v4 : Option Dv} (q : E.rt (.str "off") M') :
    U_told K C_TrothError C_InvalidArgument C_HouseClosed a0 (.ref C_PowerOff) none (endsG E 5) [v0, v1, v2, v3, v4, some (.ref a0), none] M' := by
  refine ⟨C_PowerOff, .ref C_HouseClosed, .ref C_HouseClosed, false, rfl, .inl ⟨_, rfl, rfl⟩, rfl, rfl, T.x_exc, T.x_HC, ?_⟩
  refine ⟨C_PowerOff, .ref C_InvalidArgument, .ref C_InvalidArgument, false, rfl, .inl ⟨_, rfl, rfl⟩, rfl, rfl, T.x_exc, T.x_IA, ?_⟩
  refine ⟨C_PowerOff, .ref C_TrothError, .ref C_TrothError, true, rfl, .inl ⟨_, rfl, rfl⟩, rfl, rfl, T.x_exc, T.x_TE, ?_⟩
  refine ⟨C_PowerOff, .ty "ValueError", .type "ValueError", true, rfl, .inr ⟨_, rfl, rfl⟩, rfl, rfl, T.x_exc, T.x_VE, ?_⟩
  exact q
abbrev s_told : Stmt := top 13
theorem sc_told : FnScope ["shelf", "deed", "number", "record", "told", "error", "others"] ["shelf", "deed", "number", "record"] (defScope s_told) := ⟨rfl, rfl, rfl, by decide +kernel, rfl, by decide +kernel, by decide +kernel⟩
theorem ok_told {f : Addr} {fd : FuncData} (Fn : L2.Fun K "_law_told" "_law_told" s_told f fd) (T : Tx K mg C_Shelf C_TrothError C_InvalidArgument C_PowerOff C_HouseClosed) (M_Shelf_append : DMethX P w K mg base C_Shelf "append" 3 (F_Shelf_append C_Shelf C_PowerOff)) (M_Shelf_sync : DMethX P w K mg base C_Shelf "sync" 3 (F_Shelf_sync C_Shelf C_PowerOff)) (M_Shelf_fail_after : DMethX P w K mg base C_Shelf "fail_after" 2 (F_Shelf_fail_after C_Shelf C_PowerOff)) (M_Shelf_power : DMeth P w K mg base C_Shelf "power" 2 (F_Shelf_power C_Shelf C_PowerOff)) : Gk P w K mg base 4 f fd ["shelf", "deed", "number", "record"] (spD K (F_told C_Shelf C_PowerOff)) := by
  refine dfun Fn sc_told (len_told) (fun cd A out s H E hg hr => ⟨_, _, (ss_one (Sm.ofXe (xs_tryAs (i := 5) (U_told K C_TrothError C_InvalidArgument C_HouseClosed) rfl rfl sc_told.nd rfl rfl ⟨by rfl, by decide, .inl T.e_PowerOff.g⟩ (fun W pn xe => ⟨_, (xs_cons (xs_if (t_cmp o_le (dv 1) d_int (nomark _)) (xs_one (xs_set (i := 4) sc_told.nd rfl (Or.inl rfl) (dx_meth hg M_Shelf_append hr (dv 0) (a_cons (dv 3) a_nil)))) (xs_one (xs_if (t_cmp o_le (dv 1) d_int (nomark _)) (xs_one (xs_set (i := 4) sc_told.nd rfl (Or.inl rfl) (dx_meth0 hg M_Shelf_sync hr (dv 0)))) (xs_one (xs_if (t_cmp (k_eq (K := K) hr.units) (dv 1) d_int (nomark _)) (xs_one (xs_set (i := 4) sc_told.nd rfl (Or.inl rfl) (dx_meth hg M_Shelf_fail_after hr (dv 0) (a_cons (dv 2) a_nil)))) (Ss.toX (ss_one (s_set (i := 4) sc_told.nd rfl (Or.inl rfl) (d_meth (K := K) hg M_Shelf_power hr (dv 0) (a_cons (dv 2) a_nil))))))))))
  (Ss.toX (ss_one (s_ret (k_ix (K := K) (d_lst (a_cons d_non (a_cons d_str a_nil))) (d_cty c_int (by rfl) T.int (by decide +kernel) (a_cons (d_cmp o_notN (dv 4) d_non (nomark _)) a_nil)))))))⟩)
  (fun a oe cls d pn hz hd => ⟨_, (ss_cons (s_set (i := 6) sc_told.nd rfl (Or.inl rfl) (d_or (d_cb (k_isEx hz hd) (by rfl) T.isinstance (by decide +kernel) (a_cons (dv 5) (a_cons (d_glob (v := .ref _) (by rfl) T.e_HouseClosed.g rfl (fun _ => .ref _)) a_nil))) (d_one (d_cb (k_isEx hz hd) (by rfl) T.isinstance (by decide +kernel) (a_cons (dv 5) (a_cons (d_glob (v := .ref _) (by rfl) T.e_InvalidArgument.g rfl (fun _ => .ref _)) a_nil))))))
  (ss_one (s_ret (k_ix (K := K) (d_lst (a_cons d_str (a_cons d_str a_nil))) (d_cty c_int (by rfl) T.int (by decide +kernel) (a_cons (d_and (d_cb (k_isEx hz hd) (by rfl) T.isinstance (by decide +kernel) (a_cons (dv 5) (a_cons (d_glob (v := .ref _) (by rfl) T.e_TrothError.g rfl (fun _ => .ref _)) a_nil))) (d_and (d_cb (k_isEx hz hd) (by rfl) T.isinstance (by decide +kernel) (a_cons (dv 5) (a_cons (d_tyname (n := "ValueError") (by rfl) T.ValueError (by decide +kernel)) a_nil))) (d_one (d_not (dv 6))))) a_nil))))))⟩)))), ?_⟩)
  rintro ds M R ⟨p, a, b, s, deed, n, r, rfl, h, n0, hl, k⟩
  obtain ⟨dx, hp⟩ := h.r
  have good : ∀ M', R (offD true) M' → dRet (dOp gIx (dLst (dACons (dC .non) (dACons (dC (.str "something")) dANil))) (dCB gInt (dACons (dOp (gIsN fun b => !b) (dV 4) (dC .non)) dANil))) { nx := fun _ M' => R .non M', rt := R } [some (.ref p), some (.int deed), some (.int n), some r, some .non, none, none] M' := fun M' q => q
  show (if decide (deed ≤ 3) = true then _ else _)
  refine iteB (fun d3 => ?_) (fun d3 => ?_)
  · have d3 := of_decide_eq_true d3
    have es : stepS deed n r s = appS r s := by unfold stepS; rw [if_pos d3]
    rw [es] at k
    show (match M p with | some (.ins C dx fs) => _ | _ => False)
    rw [hp]
    refine ⟨⟨rfl, rfl⟩, p, a, b, s, r, rfl, h, by omega, fun M' h' f => ⟨fun e => ?_, fun e => ?_⟩⟩
    · have kk := k M' b (.inl rfl) h' f
      rw [e] at kk
      exact kk
    · have kk := k M' b (.inl rfl) h' f
      rw [e] at kk
      exact ⟨true, T.x_exm, fun _ a0 ha0 => suite_told T kk, fun z => Bool.noConfusion z⟩
  have d3 := of_decide_eq_false d3
  show (if decide (deed ≤ 5) = true then _ else _)
  refine iteB (fun d5 => ?_) (fun d5 => ?_)
  · have d5 := of_decide_eq_true d5
    have es : stepS deed n r s = synS s := by unfold stepS; rw [if_neg d3, if_pos d5]
    rw [es] at k
    show (match M p with | some (.ins C dx fs) => _ | _ => False)
    rw [hp]
    refine ⟨⟨rfl, rfl⟩, p, a, b, s, rfl, h, hl, fun M' b' hb h' f => ⟨fun e => ?_, fun e => ?_⟩⟩
    · have kk := k M' b' hb h' f
      rw [e] at kk
      exact kk
    · have kk := k M' b' hb h' f
      rw [e] at kk
      exact ⟨true, T.x_exm, fun _ a0 ha0 => suite_told T kk, fun z => Bool.noConfusion z⟩
  have d5 := of_decide_eq_false d5
  show (if decide (deed = 6) = true then _ else _)
  refine iteB (fun d6 => ?_) (fun d6 => ?_)
  · have d6 := of_decide_eq_true d6
    have es : stepS deed n r s = faS n s := by unfold stepS; rw [if_neg d3, if_neg d5, if_pos d6]
    rw [es] at k
    show (match M p with | some (.ins C dx fs) => _ | _ => False)
    rw [hp]
    refine ⟨⟨rfl, rfl⟩, p, a, b, s, n, rfl, h, fun M' h' f => ⟨fun e => ?_, fun e => ?_⟩⟩
    · have kk := k M' b (.inl rfl) h' f
      rw [e] at kk
      exact kk
    · have kk := k M' b (.inl rfl) h' f
      rw [e] at kk
      exact ⟨true, T.x_exm, fun _ a0 ha0 => suite_told T kk, fun z => Bool.noConfusion z⟩
  · have d6 := of_decide_eq_false d6
    have es : stepS deed n r s = (powS n s, true) := by unfold stepS; rw [if_neg d3, if_neg d5, if_neg d6]
    rw [es] at k
    show (match M p with | some (.ins C dx fs) => _ | _ => False)
    rw [hp]
    exact ⟨⟨rfl, rfl⟩, p, a, b, s, n, rfl, n0, h, hl, fun M' b' hb h' f => k M' b' (.inr hb) h' f⟩
/-- records, as the law makes them -/
structure RecOk (s : MS) : Prop where
  l : s.lasts.length + s.waits.length ≤ 1000
  i : ∀ d ∈ s.lasts ++ s.waits, laidD d = true
  n : 0 ≤ s.losses
  m : s.losses ≤ 1000
  f : ∀ n, s.fuse = some n → 0 ≤ n
def F_right (C_Shelf C_PowerOff : Addr) : DF := fun ds M Q => ∃ p a b q s, ds = [.ref p, .ref q] ∧ ShAt C_Shelf M p a b s ∧ M q = some (.dK (mdF s)) ∧ RecOk s ∧ Q (.bl true) M
theorem len_right : ∀ ds M R, F_right C_Shelf C_PowerOff ds M R → ds.length = ["shelf", "model"].length := by
  rintro _ _ _ ⟨p, a, b, q, s, rfl, _⟩
  rfl
theorem ShAt.up {C : Addr} {M : MH} {p a b u : Addr} {o : MO} {s : MS} (h : ShAt C M p a b s) (hu : M u = none) : ShAt C (mup M u o) p a b s := by
  have far : ∀ {v q}, M v = some q → v ≠ u := fun e z => by subst z; rw [hu] at e; cases e
  obtain ⟨dx, hp⟩ := h.r
  exact ⟨⟨dx, by rw [mup_ne (far hp)]; exact hp⟩, by rw [mup_ne (far h.ra)]; exact h.ra, by rw [mup_ne (far h.rb)]; exact h.rb, h.ab⟩
abbrev s_right : Stmt := top 14
theorem sc_right : FnScope ["shelf", "model", "told"] ["shelf", "model"] (defScope s_right) := ⟨rfl, rfl, rfl, by decide +kernel, rfl, by decide +kernel, by decide +kernel⟩
theorem ok_right {f : Addr} {fd : FuncData} (Fn : L2.Fun K "_law_right" "_law_right" s_right f fd) (T : Tx K mg C_Shelf C_TrothError C_InvalidArgument C_PowerOff C_HouseClosed) (M_Shelf_records : DMeth P w K mg base C_Shelf "records" 1 (F_Shelf_records C_Shelf C_PowerOff)) (M_Shelf_pending : DMeth P w K mg base C_Shelf "pending" 1 (F_Shelf_pending C_Shelf C_PowerOff)) (M_Shelf_is_on : DMeth P w K mg base C_Shelf "is_on" 1 (F_Shelf_is_on C_Shelf C_PowerOff)) (M_Shelf_losses : DMeth P w K mg base C_Shelf "losses" 1 (F_Shelf_losses C_Shelf C_PowerOff)) : Gk P w K mg base 2 f fd ["shelf", "model"] (spD K (F_right C_Shelf C_PowerOff)) := by
  refine dfunG Fn sc_right (len_right) (fun cd A out s H E hg hr => ⟨_, _, (ss_cons (s_set (i := 2) sc_right.nd rfl (Or.inl rfl) (d_meth0 (K := K) hg M_Shelf_records hr (dv 0)))
  (ss_cons (s_if (Tw.ts (w_or (t_not (t_val (d_cb (k_isi (K := K)) (by rfl) T.isinstance (by decide +kernel) (a_cons (dv 2) (a_cons (d_tyname (n := "list") (by rfl) T.list (by decide +kernel)) a_nil))))) (w_or1 (t_cmp (o_neL hr.units) (dv 2) (d_op (k_add (K := K)) (d_dget hr.units (dv 1) d_str (fun _ _ => rfl)) (d_dget hr.units (dv 1) d_str (fun _ _ => rfl))) (nomark _))))) (ss_one (s_ret d_bl)) ss_nil)
  (ss_cons (s_expr (d_bm PySem.F.plainAttrs_list PySem.F.slot_list_append PySem.F.type_list_append mt_append mt_app (dv 2) (a_cons d_str a_nil)))
  (ss_cons (s_if (t_cmp (o_neL hr.units) (d_meth0 (K := K) hg M_Shelf_records hr (dv 0)) (d_op (k_add (K := K)) (d_dget hr.units (dv 1) d_str (fun _ _ => rfl)) (d_dget hr.units (dv 1) d_str (fun _ _ => rfl))) (nomark _)) (ss_one (s_ret d_bl)) ss_nil)
  (ss_one (s_ret (d_cmp (k_eq (K := K) hr.units) (d_cb (k_reprA (K := K) hg hr) (by rfl) T.repr (by decide +kernel) (a_cons (d_lst (a_cons (d_meth0 (K := K) hg M_Shelf_pending hr (dv 0)) (a_cons (d_meth0 (K := K) hg M_Shelf_is_on hr (dv 0)) (a_cons (d_meth0 (K := K) hg M_Shelf_losses hr (dv 0)) a_nil)))) a_nil)) (d_cb (k_reprA (K := K) hg hr) (by rfl) T.repr (by decide +kernel) (a_cons (d_lst (a_cons (d_cb (k_len (K := K)) (by rfl) T.len (by decide +kernel) (a_cons (d_dget hr.units (dv 1) d_str (fun _ _ => rfl)) a_nil)) (a_cons (d_dget hr.units (dv 1) d_str (fun _ _ => rfl)) (a_cons (d_dget hr.units (dv 1) d_str (fun _ _ => rfl)) a_nil)))) a_nil)) (nomark _)))))))), ?_⟩)
  rintro ds M R ⟨p, a, b, q, s, rfl, h, hq, ok, k⟩
  have sz : (sizeLine : Nat) = 16777216 := by decide +kernel
  have shL : shp (.lst (s.lasts ++ s.waits)) = true := shp_lst ok.i
  have ev : (!PyData.eqv (toP (.lst (s.lasts ++ s.waits))) (toP (.lst (s.lasts ++ s.waits)))) = false := by rw [eqv_self shL]; rfl
  obtain ⟨dx, hp⟩ := h.r
  show (match M p with | some (.ins C dx fs) => _ | _ => False)
  rw [hp]
  refine ⟨⟨rfl, rfl⟩, p, a, b, s, rfl, h, ok.l, fun r hr => ?_⟩
  have h1 := h.up (o := .lst (s.lasts ++ s.waits)) hr
  have qr : q ≠ r := fun z => by subst z; rw [hr] at hq; cases hq
  have hq1 : (mup M r (.lst (s.lasts ++ s.waits))) q = some (.dK (mdF s)) := by rw [mup_ne qr]; exact hq
  have hr1 : (mup M r (.lst (s.lasts ++ s.waits))) r = some (.lst (s.lasts ++ s.waits)) := mup_same
  refine ⟨by decide, ?_⟩
  show (match (match (mup M r (.lst (s.lasts ++ s.waits))) r with | some (.lst _) => some "list" | some (.dK _) => some "dict" | _ => none) with | some a => _ | none => False)
  rw [hr1]
  refine dget_go hq1 rfl _ ?_
  refine dget_go hq1 rfl _ ?_
  refine ⟨by have := ok.l; omega, ?_⟩
  refine neL_go (ls_ref hr1) (show lsD _ (.lst (s.lasts ++ s.waits)) = some _ from rfl) shL shL ?_
  rw [ev]
  show dMeth1 (dV 2) _ gApp [some (.ref p), some (.ref q), some (.ref r)] (mup M r (.lst (s.lasts ++ s.waits))) _
  refine meth_go rfl hr1 ?_
  show (match (mup M r (.lst (s.lasts ++ s.waits))) r with | some (.lst ys) => _ | _ => False)
  rw [hr1]
  refine ⟨by rw [List.length_append]; have := ok.l; omega, ?_⟩
  rw [mup_mup]
  have h2 := h.up (o := .lst (s.lasts ++ s.waits ++ [.str "spoilt"])) hr
  have hq2 : (mup M r (.lst (s.lasts ++ s.waits ++ [.str "spoilt"]))) q = some (.dK (mdF s)) := by rw [mup_ne qr]; exact hq
  obtain ⟨dx2, hp2⟩ := h2.r
  have le2 : MLe M (mup M r (.lst (s.lasts ++ s.waits ++ [.str "spoilt"]))) := MLe.up hr
  generalize mup M r (.lst (s.lasts ++ s.waits ++ [.str "spoilt"])) = M2 at h2 hq2 hp2 le2 ⊢
  show (match M2 p with | some (.ins C dx fs) => _ | _ => False)
  rw [hp2]
  refine ⟨⟨rfl, rfl⟩, p, a, b, s, rfl, h2, ok.l, fun r3 hr3 => ?_⟩
  have h3 := h2.up (o := .lst (s.lasts ++ s.waits)) hr3
  have qr3 : q ≠ r3 := fun z => by subst z; rw [hr3] at hq2; cases hq2
  have hq3 : (mup M2 r3 (.lst (s.lasts ++ s.waits))) q = some (.dK (mdF s)) := by rw [mup_ne qr3]; exact hq2
  have hr33 : (mup M2 r3 (.lst (s.lasts ++ s.waits))) r3 = some (.lst (s.lasts ++ s.waits)) := mup_same
  obtain ⟨dx3, hp3⟩ := h3.r
  have le3 : MLe M (mup M2 r3 (.lst (s.lasts ++ s.waits))) := fun u o z => MLe.up hr3 u o (le2 u o z)
  generalize mup M2 r3 (.lst (s.lasts ++ s.waits)) = M3 at h3 hq3 hp3 le3 hr33 ⊢
  refine dget_go hq3 rfl _ ?_
  refine dget_go hq3 rfl _ ?_
  refine ⟨by have := ok.l; omega, ?_⟩
  refine neL_go (ls_ref hr33) (show lsD _ (.lst (s.lasts ++ s.waits)) = some _ from rfl) shL shL ?_
  rw [ev]
  show (match M3 p with | some (.ins C dx fs) => _ | _ => False)
  rw [hp3]
  refine ⟨⟨rfl, rfl⟩, p, a, b, s, rfl, h3, ?_⟩
  show (match M3 p with | some (.ins C dx fs) => _ | _ => False)
  rw [hp3]
  refine ⟨⟨rfl, rfl⟩, p, a, b, s, rfl, h3, ?_⟩
  show (match M3 p with | some (.ins C dx fs) => _ | _ => False)
  rw [hp3]
  refine ⟨⟨rfl, rfl⟩, p, a, b, s, rfl, h3, ?_⟩
  have nl := ok.n
  have ml := ok.m
  have ll := ok.l
  have i1 : (PyData.shown (.int (s.waits.length : Nat))).length ≤ 6 := intText_le (k := 5) (by decide) (by omega)
  have i2 : (PyData.shown (.int s.losses)).length ≤ 6 := intText_le (k := 5) (by decide) (by omega)
  have i3 := boolText_le s.on
  have shw : okR (.lst [.int (s.waits.length : Nat), .bl s.on, .int s.losses]) = true ∧ (toP (.lst [.int (s.waits.length : Nat), .bl s.on, .int s.losses])).depth ≤ 60 ∧ (toP (.lst [.int (s.waits.length : Nat), .bl s.on, .int s.losses])).shown.length ≤ sizeLine := by
    have g1 : decide ((s.waits.length : Int).natAbs.log2 < 1920) = true := by simpa [okD] using int_ok (i := (s.waits.length : Nat)) (k := 64) (by omega) (by decide) (by decide)
    have g2 : decide (s.losses.natAbs.log2 < 1920) = true := by simpa [okD] using int_ok (i := s.losses) (k := 64) (by omega) (by decide) (by decide)
    refine ⟨?_, ?_, ?_⟩
    · unfold okR
      simp only [datD, datDs, toP, toPs, PyData.showable, PyData.showableAll, PyData.hasDict, PyData.hasDictAll, g1, g2, Bool.and_self, Bool.not_false, Bool.or_self]
    · simp [toP, toPs, PyData.depth, PyData.depthAll]
    · have := listText_le (PyData.shownAll (toPs [.int (s.waits.length : Nat), .bl s.on, .int s.losses]))
      simp only [toP, toPs, PyData.shown, PyData.shownAll, List.map_cons, List.map_nil, List.sum_cons, List.sum_nil] at this i1 i2 i3 ⊢
      omega
  refine ⟨shw, ?_⟩
  refine dget_go hq3 rfl _ ?_
  refine dget_go hq3 rfl _ ?_
  refine dget_go hq3 rfl _ ?_
  refine ⟨shw, ?_⟩
  show ∃ M'', MLe M'' M3 ∧ R (.bl (decide (_ = _))) M''
  exact ⟨M, le3, by rw [decide_eq_true rfl]; exact k⟩
end
end Vk
set_option linter.unusedVariables false
set_option linter.unusedSimpArgs false
namespace Vk
open PySem PySem.Spec PyProof.Rows L2
/-- what is kept of a shelf's contents behind k deeds -/
structure RecN (k : Nat) (s : MS) : Prop where
  l : s.lasts.length + s.waits.length ≤ k
  i : ∀ d ∈ s.lasts ++ s.waits, laidD d = true
  n : 0 ≤ s.losses
  m : s.losses ≤ k
  f : ∀ n, s.fuse = some n → 0 ≤ n
theorem RecN.ok {k : Nat} {s : MS} (h : RecN k s) (hk : k ≤ 1000) : RecOk s := ⟨by have := h.l; omega, h.i, h.n, by have := h.m; omega, h.f⟩
theorem RecN.mono {k j : Nat} {s : MS} (h : RecN k s) (hk : k ≤ j) : RecN j s := ⟨by have := h.l; omega, h.i, h.n, by have := h.m; omega, h.f⟩
theorem RecN.op {k : Nat} {s : MS} (h : RecN k s) : RecN (k + 1) (opS s).1 := by
  have a := h.l
  have b := h.n
  have c := h.m
  unfold opS
  split
  · split
    · exact h.mono (by omega)
    · rename_i n e
      split
      · exact ⟨by show s.lasts.length + s.waits.length ≤ _; omega, h.i, by show 0 ≤ s.losses + 1; omega, by show s.losses + 1 ≤ _; omega, fun n z => by cases z⟩
      · rename_i hn
        exact ⟨by show s.lasts.length + s.waits.length ≤ _; omega, h.i, b, by show s.losses ≤ _; omega, fun m z => by
          injection z with z
          omega⟩
  · exact h.mono (by omega)
theorem RecN.off {k : Nat} {s : MS} (h : RecN k s) : RecN (k + 1) (offS s) := by
  have a := h.l
  have b := h.n
  have c := h.m
  unfold offS
  split
  · exact ⟨by show s.lasts.length + s.waits.length ≤ _; omega, h.i, by show 0 ≤ s.losses + 1; omega, by show s.losses + 1 ≤ _; omega, fun n z => by cases z⟩
  · exact h.mono (by omega)
theorem RecN.step {k : Nat} {s : MS} {deed n : Int} {r : Dv} (h : RecN k s) (hr : laidD r = true) (n0 : 0 ≤ n) : RecN (k + 2) (stepS deed n r s).1 := by
  have g := h.op
  have gl := g.l
  have gm := g.m
  have gi := g.i
  have o := h.off
  have ol := o.l
  have om := o.m
  have oi := o.i
  unfold stepS
  split
  · unfold appS
    split
    · refine ⟨by simp only [List.length_append, List.length_cons, List.length_nil]; omega, fun d hd => ?_, g.n, by show (opS s).1.losses ≤ _; omega, g.f⟩
      simp only [List.mem_append, List.mem_singleton] at hd
      rcases hd with hd | hd | rfl
      · exact gi d (List.mem_append.mpr (.inl hd))
      · exact gi d (List.mem_append.mpr (.inr hd))
      · exact hr
    · exact g.mono (by omega)
  · split
    · unfold synS
      split
      · refine ⟨by simp only [List.length_append, List.length_nil]; omega, fun d hd => ?_, g.n, by show (opS s).1.losses ≤ _; omega, g.f⟩
        simp only [List.mem_append, List.not_mem_nil, or_false] at hd
        exact gi d (List.mem_append.mpr hd)
      · exact g.mono (by omega)
    · split
      · unfold faS
        split
        · refine ⟨by have := h.l; show s.lasts.length + s.waits.length ≤ _; omega, h.i, h.n, by have := h.m; show s.losses ≤ _; omega, fun m z => ?_⟩
          injection z with z
          omega
        · exact h.mono (by omega)
      · refine ⟨by simp only [powS, List.length_append, List.length_take, List.length_nil]; omega, fun d hd => ?_, o.n, by show (offS s).losses ≤ _; omega, o.f⟩
        simp only [powS, List.mem_append, List.not_mem_nil, or_false] at hd
        rcases hd with hd | hd
        · exact oi d (List.mem_append.mpr (.inl hd))
        · exact oi d (List.mem_append.mpr (.inr (List.mem_of_mem_take hd)))
/-- both shelves, both models, the draws -/
structure Sys (C : Addr) (M : MH) (q L p1 a1 b1 m1 : Addr) (s1 : MS) (p2 a2 b2 m2 : Addr) (s2 : MS) : Prop where
  st : StK M q L
  h1 : ShAt C M p1 a1 b1 s1
  h2 : ShAt C M p2 a2 b2 s2
  d1 : M m1 = some (.dK (mdF s1))
  d2 : M m2 = some (.dK (mdF s2))
  nd : q ≠ L ∧ q ≠ a1 ∧ q ≠ b1 ∧ q ≠ a2 ∧ q ≠ b2 ∧ L ≠ a1 ∧ L ≠ b1 ∧ L ≠ a2 ∧ L ≠ b2 ∧ a1 ≠ a2 ∧ a1 ≠ b2 ∧ b1 ≠ a2 ∧ b1 ≠ b2
  np : p1 ≠ p2
  nm : m1 ≠ m2
theorem Sys.swap {C : Addr} {M : MH} {q L p1 a1 b1 m1 : Addr} {s1 : MS} {p2 a2 b2 m2 : Addr} {s2 : MS} (h : Sys C M q L p1 a1 b1 m1 s1 p2 a2 b2 m2 s2) : Sys C M q L p2 a2 b2 m2 s2 p1 a1 b1 m1 s1 := by
  obtain ⟨x1, x2, x3, x4, x5, x6, x7, x8, x9, x10, x11, x12, x13⟩ := h.nd
  exact ⟨h.st, h.h2, h.h1, h.d2, h.d1, ⟨x1, x4, x5, x2, x3, x8, x9, x6, x7, Ne.symm x10, Ne.symm x12, Ne.symm x11, Ne.symm x13⟩, Ne.symm h.np, Ne.symm h.nm⟩
/-- a shelf whose objects stand -/
theorem ShAt.keep {C : Addr} {M M' : MH} {p a b : Addr} {s : MS} (h : ShAt C M p a b s) (k : ∀ u o, M u = some o → (u = p ∨ u = a ∨ u = b) → M' u = some o) : ShAt C M' p a b s := by
  obtain ⟨dx, hp⟩ := h.r
  exact ⟨⟨dx, k _ _ hp (.inl rfl)⟩, k _ _ h.ra (.inr (.inl rfl)), k _ _ h.rb (.inr (.inr rfl)), h.ab⟩
theorem Sys.pick {C : Addr} {M M' : MH} {q L p1 a1 b1 m1 : Addr} {s1 : MS} {p2 a2 b2 m2 : Addr} {s2 : MS} (h : Sys C M q L p1 a1 b1 m1 s1 p2 a2 b2 m2 s2) (st : StK M' q L) (k : ∀ u o, M u = some o → u ≠ q → u ≠ L → M' u = some o) : Sys C M' q L p1 a1 b1 m1 s1 p2 a2 b2 m2 s2 := by
  obtain ⟨⟨ns, x, y, hq, hL, _⟩, qL⟩ := h.st
  obtain ⟨x1, x2, x3, x4, x5, x6, x7, x8, x9, x10, x11, x12, x13⟩ := h.nd
  obtain ⟨dx1, hp1⟩ := h.h1.r
  obtain ⟨dx2, hp2⟩ := h.h2.r
  have far : ∀ {u o}, M u = some o → (∀ l, o ≠ .lst l) → M' u = some o := fun {u o} e n => k u o e (fun z => by subst z; rw [hq] at e; injection e with e; exact n _ e.symm) (fun z => by subst z; rw [hL] at e; injection e with e; exact n _ e.symm)
  refine ⟨st, h.h1.keep fun u o e z => ?_, h.h2.keep fun u o e z => ?_, far h.d1 (fun _ z => by cases z), far h.d2 (fun _ z => by cases z), h.nd, h.np, h.nm⟩
  · rcases z with rfl | rfl | rfl
    · rw [hp1] at e; cases e; exact far hp1 (fun _ z => by cases z)
    · exact k _ _ e (Ne.symm x2) (Ne.symm x6)
    · exact k _ _ e (Ne.symm x3) (Ne.symm x7)
  · rcases z with rfl | rfl | rfl
    · rw [hp2] at e; cases e; exact far hp2 (fun _ z => by cases z)
    · exact k _ _ e (Ne.symm x4) (Ne.symm x8)
    · exact k _ _ e (Ne.symm x5) (Ne.symm x9)
/-- the model goes on -/
theorem Sys.model {C : Addr} {M : MH} {q L p1 a1 b1 m1 : Addr} {s1 s' : MS} {p2 a2 b2 m2 : Addr} {s2 : MS} (h : Sys C M q L p1 a1 b1 m1 s1 p2 a2 b2 m2 s2) : StK (mup M m1 (.dK (mdF s'))) q L ∧ ShAt C (mup M m1 (.dK (mdF s'))) p1 a1 b1 s1 ∧ ShAt C (mup M m1 (.dK (mdF s'))) p2 a2 b2 s2 ∧ (mup M m1 (.dK (mdF s'))) m2 = some (.dK (mdF s2)) := by
  have far : ∀ {u o}, M u = some o → (∀ l, o ≠ .dK l) → (mup M m1 (.dK (mdF s'))) u = some o := fun {u o} e n => by
    rw [mup_ne (fun z => by subst z; rw [h.d1] at e; injection e with e; exact n _ e.symm)]
    exact e
  obtain ⟨⟨ns, x, y, hq, hL, hl, hx, hy, hy2⟩, qL⟩ := h.st
  obtain ⟨dx1, hp1⟩ := h.h1.r
  obtain ⟨dx2, hp2⟩ := h.h2.r
  exact ⟨⟨⟨ns, x, y, far hq (fun _ z => by cases z), far hL (fun _ z => by cases z), hl, hx, hy, hy2⟩, qL⟩, ⟨⟨dx1, far hp1 (fun _ z => by cases z)⟩, far h.h1.ra (fun _ z => by cases z), far h.h1.rb (fun _ z => by cases z), h.h1.ab⟩,
    ⟨⟨dx2, far hp2 (fun _ z => by cases z)⟩, far h.h2.ra (fun _ z => by cases z), far h.h2.rb (fun _ z => by cases z), h.h2.ab⟩, by rw [mup_ne (Ne.symm h.nm)]; exact h.d2⟩
theorem Sys.step {C : Addr} {M M2 : MH} {q L p1 a1 b1 m1 : Addr} {s1 s' : MS} {p2 a2 b2 m2 b' : Addr} {s2 : MS} (h : Sys C M q L p1 a1 b1 m1 s1 p2 a2 b2 m2 s2) (hb : b' = b1 ∨ (mup M m1 (.dK (mdF s'))) b' = none) (sh : ShAt C M2 p1 a1 b' s') (f : Fr3 (mup M m1 (.dK (mdF s'))) M2 p1 a1 b1) : Sys C M2 q L p1 a1 b' m1 s' p2 a2 b2 m2 s2 := by
  obtain ⟨st, g1, g2, e2⟩ := h.model (s' := s')
  obtain ⟨x1, x2, x3, x4, x5, x6, x7, x8, x9, x10, x11, x12, x13⟩ := h.nd
  obtain ⟨⟨ns, x, y, hq, hL, hl, hx, hy, hy2⟩, qL⟩ := st
  obtain ⟨dx1, hp1⟩ := g1.r
  obtain ⟨dx2, hp2⟩ := g2.r
  have nb : ∀ {u o}, (mup M m1 (.dK (mdF s'))) u = some o → u ≠ b1 → u ≠ b' := fun {u o} e n z => by
    rcases hb with hb | hb
    · exact n (z.trans hb)
    · rw [← z, e] at hb; cases hb
  have ty : ∀ {u v : Addr} {o o' : MO}, (mup M m1 (.dK (mdF s'))) u = some o → (mup M m1 (.dK (mdF s'))) v = some o' → o ≠ o' → u ≠ v := fun e e' n z => by
    subst z
    rw [e] at e'
    injection e' with e'
    exact n e'
  have em1 : (mup M m1 (.dK (mdF s'))) m1 = some (.dK (mdF s')) := mup_same
  have kq := f q _ hq (ty hq hp1 (by intro z; cases z)) x2 x3
  have kL := f L _ hL (ty hL hp1 (by intro z; cases z)) x6 x7
  have km1 := f m1 _ em1 (ty em1 hp1 (by intro z; cases z)) (ty em1 g1.ra (by intro z; cases z)) (ty em1 g1.rb (by intro z; cases z))
  have km2 := f m2 _ e2 (ty e2 hp1 (by intro z; cases z)) (ty e2 g1.ra (by intro z; cases z)) (ty e2 g1.rb (by intro z; cases z))
  have kp2 := f p2 _ hp2 (Ne.symm h.np) (ty hp2 g1.ra (by intro z; cases z)) (ty hp2 g1.rb (by intro z; cases z))
  have ka2 := f a2 _ g2.ra (ty g2.ra hp1 (by intro z; cases z)) (Ne.symm x10) (Ne.symm x12)
  have kb2 := f b2 _ g2.rb (ty g2.rb hp1 (by intro z; cases z)) (Ne.symm x11) (Ne.symm x13)
  exact ⟨⟨⟨ns, x, y, kq, kL, hl, hx, hy, hy2⟩, qL⟩, sh, ⟨⟨dx2, kp2⟩, ka2, kb2, g2.ab⟩, km1, km2, ⟨x1, x2, nb hq x3, x4, x5, x6, nb hL x7, x8, x9, x10, x11, Ne.symm (nb g2.ra (Ne.symm x12)), Ne.symm (nb g2.rb (Ne.symm x13))⟩, h.np, h.nm⟩
theorem at_go {xs : List Dv} {i : Int} {d : Dv} (h : atI xs i = some d) (T : Dv → Prop) (t : T d) : (match atI xs i with | some d => T d | none => False) := by rw [h]; exact t
theorem Gk.weak {P : Program} {w : World} {K : PySem.W.Frag} {mg : Str → Option Value} {base : Heap} {k : Nat} {f : Addr} {fd : FuncData} {ps : List Str} {sp sp' : Sp} (h : ∀ vs H Q E, sp' vs H Q E → sp vs H Q E) (g : Gk P w K mg base k f fd ps sp) : Gk P w K mg base k f fd ps sp' :=
  ⟨fun vs H Q E z => g.len vs H Q E (h _ _ _ _ z), fun hg r e b v z => g.go hg r e b v (h _ _ _ _ z)⟩
theorem intsD_len (lo : Int) (n : Nat) : (intsD lo n).length = n := by unfold intsD; rw [List.length_map, List.length_range]
theorem range_at {lo : Int} {n i : Nat} {d : Dv} (h : (intsD lo n)[i]? = some d) : d = .int (lo + (i : Nat)) ∧ i < n := by
  unfold intsD at h
  rw [List.getElem?_map] at h
  by_cases c : i < n
  · rw [List.getElem?_range c] at h
    cases h
    exact ⟨rfl, c⟩
  · rw [List.getElem?_eq_none (by simpa using c)] at h
    cases h
theorem neq_off {x : Bool} {M : MH} {Q : DK} (q : Q (.bl false) M) : gNeI (offD x) (offD x) M Q := by
  unfold gNeI
  cases x with
  | true => exact q
  | false =>
    show Q (.bl (!decide (("off" : Str) = "off"))) M
    rw [decide_eq_true rfl]
    exact q
theorem rec_laid (k n : Int) : laidD (.tup [.str "own", .int k, .tup [.str "prevote", .int n, .non]]) = true := by
  unfold laidD
  rw [Bool.and_eq_true, Bool.and_eq_true]
  refine ⟨⟨rfl, ?_⟩, ?_⟩
  · simp only [toP, toPs, PyData.canLay0, PyData.canLayAll0]
    decide +kernel
  · simp [toP, toPs, PyData.depth, PyData.depthAll]
abbrev ms0 : MS := ⟨[], [], true, none, 0⟩
section
variable {P : Program} {w : World} {K : PySem.W.Frag} {mg : Str → Option Value} {base : Heap} {C_Shelf C_TrothError C_InvalidArgument C_PowerOff C_HouseClosed : Addr}
def F_law : DF := fun ds M Q => ∃ ns, ds = [.scr ns] ∧ ns.length ≤ 63 ∧ M = (fun _ => none) ∧ Q (.bl true) M
theorem len_law : ∀ ds M R, F_law ds M R → ds.length = ["script"].length := by
  rintro _ _ _ ⟨ns, rfl, _⟩
  rfl
abbrev s_law : Stmt := top 15
theorem sc_law : FnScope ["script", "state", "shelves", "models", "k", "at", "deed", "number", "record", "due"] ["script"] (defScope s_law) := ⟨rfl, rfl, rfl, by decide +kernel, rfl, by decide +kernel, by decide +kernel⟩
theorem ok_law {f : Addr} {fd : FuncData} (Fn : L2.Fun K "law" "law" s_law f fd) (T : Tx K mg C_Shelf C_TrothError C_InvalidArgument C_PowerOff C_HouseClosed) (C_state : DCal P w K mg base "_law_state" 1 F_state) (C_pick : DCal P w K mg base "_law_pick" 1 F_pick) (C_due : DCal P w K mg base "_law_due" 3 F_due) (C_told : DCal P w K mg base "_law_told" 4 (F_told C_Shelf C_PowerOff)) (C_right : DCal P w K mg base "_law_right" 2 (F_right C_Shelf C_PowerOff)) (K_Shelf : DMk P w K mg base "Shelf" C_Shelf 1 (F_Shelf_init C_Shelf C_PowerOff)) : Gk P w K mg base 5 f fd ["script"] (spD K F_law) := by
  refine dfunG Fn sc_law (len_law) (fun cd A out s H E hg hr => ⟨_, _, (ss_cons (s_set (i := 1) sc_law.nd rfl (Or.inl rfl) (k_call (K := K) hg C_state hr rfl (a_cons (dv 0) a_nil)))
  (ss_cons (s_set (i := 2) sc_law.nd rfl (Or.inl rfl) (d_lst (a_cons (d_mk0 (K := K) hg K_Shelf hr rfl) (a_cons (d_mk0 (K := K) hg K_Shelf hr rfl) a_nil))))
  (ss_cons (s_setLc (i := 3) (own := [("k", 4)]) rfl sc_law.nd rfl rfl (sw_true rfl rfl rfl (by decide +kernel)) (w_range1 rfl T.range (a_cons d_int a_nil)) (blkOk_by (N := ["script", "state", "shelves", "models", "k", "at", "deed", "number", "record", "due"]) (sc := defScope s_law) (by decide +kernel)) (fun _ _ _ _ _ => (g_name 4 sc_law.nd)) (fun _ _ _ _ _ => pts_nil) rt_yes (fun _ _ _ _ _ => (d_disp (prs_cons (d_lst a_nil) (prs_cons (d_lst a_nil) (prs_cons d_bl (prs_cons d_non (prs_cons d_int prs_nil))))))))
  (ss_cons (s_for PassesOwn.never rfl (w_range1 rfl T.range (a_cons (d_op (k_add (K := K)) d_int (d_cb (c_min rfl) (by rfl) T.min (by decide +kernel) (a_cons d_int (a_cons (d_cb (k_len (K := K)) (by rfl) T.len (by decide +kernel) (a_cons (dv 0) a_nil)) a_nil)))) a_nil)) (g_name 4 sc_law.nd)
  (ss_cons (s_set (i := 5) sc_law.nd rfl (Or.inl rfl) (k_call (K := K) hg C_pick hr rfl (a_cons (dv 1) (a_cons d_int a_nil))))
  (ss_cons (s_set (i := 6) sc_law.nd rfl (Or.inl rfl) (k_call (K := K) hg C_pick hr rfl (a_cons (dv 1) (a_cons d_int a_nil))))
  (ss_cons (s_set (i := 7) sc_law.nd rfl (Or.inl rfl) (k_call (K := K) hg C_pick hr rfl (a_cons (dv 1) (a_cons d_int a_nil))))
  (ss_cons (s_set (i := 8) sc_law.nd rfl (Or.inl rfl) (d_tup (a_cons d_str (a_cons (dv 4) (a_cons (d_tup (a_cons d_str (a_cons (dv 7) (a_cons d_non a_nil)))) a_nil)))))
  (ss_cons (s_set (i := 9) sc_law.nd rfl (Or.inl rfl) (k_call (K := K) hg C_due hr rfl (a_cons (k_ix (K := K) (dv 3) (dv 5)) (a_cons (dv 6) (a_cons (dv 7) (a_cons (dv 8) a_nil))))))
  (ss_cons (s_if (t_cmp (k_neI (K := K) hr.units) (k_call (K := K) hg C_told hr rfl (a_cons (k_ix (K := K) (dv 2) (dv 5)) (a_cons (dv 6) (a_cons (dv 7) (a_cons (dv 8) a_nil))))) (dv 9) (nomark _)) (ss_one (s_ret d_bl)) ss_nil)
  (ss_one (s_if (Tw.ts (w_or (t_not (t_val (k_call (K := K) hg C_right hr rfl (a_cons (k_ix (K := K) (dv 2) d_int) (a_cons (k_ix (K := K) (dv 3) d_int) a_nil))))) (w_or1 (t_not (t_val (k_call (K := K) hg C_right hr rfl (a_cons (k_ix (K := K) (dv 2) d_int) (a_cons (k_ix (K := K) (dv 3) d_int) a_nil)))))))) (ss_one (s_ret d_bl)) ss_nil)))))))))
  (ss_one (s_ret d_bl)))))), ?_⟩)
  rintro ds M R ⟨ns, rfl, hl, rfl, k⟩
  have sz : (sizeLine : Nat) = 16777216 := by decide +kernel
  refine ⟨ns, rfl, hl, fun q L M1 st1 _ _ _ => ?_⟩
  obtain ⟨⟨ns1, sx, sy, hq1, hL1, hs1, hs2, hs3, hs4⟩, qL⟩ := id st1
  -- two shelves
  intro p1 dx1 hp1 hdx1 hne1
  refine ⟨p1, dx1, rfl, mup_same, fun a1 b1 Ma sh1 na1 nb1 keep1 => ⟨rfl, ?_⟩⟩
  have far1 : ∀ {u o}, M1 u = some o → u ≠ p1 ∧ u ≠ dx1 := fun {u o} e => ⟨(fun z => by subst z; rw [hp1] at e; cases e), (fun z => by subst z; rw [hdx1] at e; cases e)⟩
  have ext1 : ∀ u o, M1 u = some o → Ma u = some o := fun u o e => keep1 u o (by rw [mup_ne (far1 e).1, mup_ne (far1 e).2]; exact e) (far1 e).1
  have na1' := (mup_none (mup_none na1).2).2
  have nb1' := (mup_none (mup_none nb1).2).2
  intro p2 dx2 hp2 hdx2 hne2
  refine ⟨p2, dx2, rfl, mup_same, fun a2 b2 Mb sh2 na2 nb2 keep2 => ⟨rfl, ?_⟩⟩
  have far2 : ∀ {u o}, Ma u = some o → u ≠ p2 ∧ u ≠ dx2 := fun {u o} e => ⟨(fun z => by subst z; rw [hp2] at e; cases e), (fun z => by subst z; rw [hdx2] at e; cases e)⟩
  have ext2 : ∀ u o, Ma u = some o → Mb u = some o := fun u o e => keep2 u o (by rw [mup_ne (far2 e).1, mup_ne (far2 e).2]; exact e) (far2 e).1
  have na2' := (mup_none (mup_none na2).2).2
  have nb2' := (mup_none (mup_none nb2).2).2
  have new1 : ∀ {u v o}, M1 u = some o → M1 v = none → u ≠ v := fun e n z => by subst z; rw [n] at e; cases e
  have new2 : ∀ {u v o}, Ma u = some o → Ma v = none → u ≠ v := fun e n z => by subst z; rw [n] at e; cases e
  obtain ⟨dd1, hr1⟩ := sh1.r
  have sh1b : ShAt C_Shelf Mb p1 a1 b1 ms0 := sh1.keep fun u o e _ => ext2 u o e
  have stb : StK Mb q L := ⟨⟨ns1, sx, sy, ext2 _ _ (ext1 _ _ hq1), ext2 _ _ (ext1 _ _ hL1), hs1, hs2, hs3, hs4⟩, qL⟩
  have ndb : q ≠ L ∧ q ≠ a1 ∧ q ≠ b1 ∧ q ≠ a2 ∧ q ≠ b2 ∧ L ≠ a1 ∧ L ≠ b1 ∧ L ≠ a2 ∧ L ≠ b2 ∧ a1 ≠ a2 ∧ a1 ≠ b2 ∧ b1 ≠ a2 ∧ b1 ≠ b2 :=
    ⟨qL, new1 hq1 na1', new1 hq1 nb1', new2 (ext1 _ _ hq1) na2', new2 (ext1 _ _ hq1) nb2', new1 hL1 na1', new1 hL1 nb1', new2 (ext1 _ _ hL1) na2', new2 (ext1 _ _ hL1) nb2', new2 sh1.ra na2', new2 sh1.ra nb2', new2 sh1.rb na2', new2 sh1.rb nb2'⟩
  have npb : p1 ≠ p2 := new2 hr1 hp2
  -- two models
  show dLc _ _ _ _ _ _ _ _
  unfold dLc
  refine ⟨by decide, by decide, by rw [intsD_len]; show 2 ≤ sizeLine; omega, fun i acc M' => (∀ u o, Mb u = some o → M' u = some o) ∧ ((i = 0 ∧ acc = []) ∨ (i = 1 ∧ ∃ m1, acc = [.ref m1] ∧ M' m1 = some (.dK (mdF ms0))) ∨ (i = 2 ∧ ∃ m1 m2, acc = [.ref m1, .ref m2] ∧ m1 ≠ m2 ∧ M' m1 = some (.dK (mdF ms0)) ∧ M' m2 = some (.dK (mdF ms0)))),
    ⟨fun _ _ h => h, .inl ⟨rfl, rfl⟩⟩, fun _ _ _ _ => trivial, ?_, ?_⟩
  · rintro i d acc M' hd ⟨ext, alt⟩
    obtain ⟨rfl, hi⟩ := range_at hd
    have hi2 : i < 2 := hi
    intro m hm
    refine ⟨mup_same, by decide, ?_⟩
    rw [mup_mup]
    have ext' : ∀ u o, Mb u = some o → (mup M' m (.dK (mdF ms0))) u = some o := fun u o e => by
      have := ext u o e
      rw [mup_ne (fun z => by subst z; rw [hm] at this; cases this)]
      exact this
    rcases alt with ⟨rfl, rfl⟩ | ⟨rfl, m1, rfl, e1⟩ | ⟨rfl, _⟩
    · exact ⟨ext', .inr (.inl ⟨rfl, m, rfl, mup_same⟩)⟩
    · have n : m1 ≠ m := fun z => by subst z; rw [hm] at e1; cases e1
      exact ⟨ext', .inr (.inr ⟨rfl, m1, m, rfl, n, by rw [mup_ne n]; exact e1, mup_same⟩)⟩
    · omega
  rintro acc Mc ⟨ext3, alt⟩
  rw [intsD_len] at alt
  rcases alt with ⟨z, _⟩ | ⟨z, _⟩ | ⟨_, m1, m2, rfl, nm, e1, e2⟩
  · cases z
  · cases z
  have sys : Sys C_Shelf Mc q L p1 a1 b1 m1 ms0 p2 a2 b2 m2 ms0 := ⟨⟨⟨ns1, sx, sy, ext3 _ _ (ext2 _ _ (ext1 _ _ hq1)), ext3 _ _ (ext2 _ _ (ext1 _ _ hL1)), hs1, hs2, hs3, hs4⟩, qL⟩, sh1b.keep fun u o e _ => ext3 u o e, sh2.keep fun u o e _ => ext3 u o e, e1, e2, ndb, npb, nm⟩
  clear sh1b stb ext3 ext2 ext1 keep1 keep2 far1 far2 new1 new2 hr1 e1 e2 sh2 sh1 na1 nb1 na2 nb2 hq1 hL1 st1
  -- the deeds
  show dFor _ _ _ _ _ _
  unfold dFor
  have cnt : ∃ c : Nat, (12 : Int) + (if ((ns.length : Nat) : Int) < 28 then ((ns.length : Nat) : Int) else 28) = (c : Int) ∧ c ≤ 40 := by
    split
    · exact ⟨12 + ns.length, by omega, by omega⟩
    · exact ⟨40, by omega, by omega⟩
  obtain ⟨c, ec, hc⟩ := cnt
  show -(2 ^ 62) ≤ (12 : Int) + (if ((ns.length : Nat) : Int) < 28 then ((ns.length : Nat) : Int) else 28) ∧ _
  rw [ec]
  refine ⟨by omega, by omega, ?_⟩
  refine ⟨fun i env M' => ∃ x4 x5 x6 x7 x8 x9 b1 s1 b2 s2, env = [some (.scr ns), some (.ref q), some (.lst [.ref p1, .ref p2]), some (.lst [.ref m1, .ref m2]), x4, x5, x6, x7, x8, x9] ∧ Sys C_Shelf M' q L p1 a1 b1 m1 s1 p2 a2 b2 m2 s2 ∧ RecN (2 * i) s1 ∧ RecN (2 * i) s2, ?_, fun _ _ _ _ => trivial, ?_, ?_⟩
  · have r0 : RecN (2 * 0) ms0 := ⟨Nat.le_refl _, (fun d hd => by cases hd), Int.le_refl _, Int.le_refl _, (fun n z => by cases z)⟩
    exact ⟨_, _, _, _, _, _, b1, _, b2, _, rfl, sys, r0, r0⟩
  · clear sys
    rintro i d env M' hd ⟨x4, x5, x6, x7, x8, x9, b1, s1, b2, s2, rfl, sys, r1, r2⟩
    obtain ⟨rfl, hi⟩ := range_at hd
    have hi : i < c := hi
    refine ⟨q, L, 2, rfl, sys.st, by decide, by decide, fun v1 M1 v10 v11 st1 k1 => ?_⟩
    have sys1 := sys.pick st1 k1
    refine ⟨q, L, 8, rfl, sys1.st, by decide, by decide, fun v2 M2 v20 v21 st2 k2 => ?_⟩
    have sys2 := sys1.pick st2 k2
    refine ⟨q, L, 5, rfl, sys2.st, by decide, by decide, fun v3 M3 v30 v31 st3 k3 => ?_⟩
    have sys3 := sys2.pick st3 k3
    clear sys sys1 sys2 st1 st2 st3 k1 k2 k3
    have l1 := r1.l
    have l2 := r2.l
    have rl := rec_laid (0 + (i : Int)) v3
    rcases (show v1 = 0 ∨ v1 = 1 by omega) with rfl | rfl
    · refine ⟨m1, s1, v2, v3, _, rfl, sys3.d1, r1.f, v30, by omega, ?_⟩
      obtain ⟨stM, g1, g2, e2⟩ := sys3.model (s' := (stepS v2 v3 (.tup [.str "own", .int (0 + (i : Int)), .tup [.str "prevote", .int v3, .non]]) s1).1)
      refine ⟨p1, a1, b1, s1, v2, v3, _, rfl, g1, v30, by omega, fun M4 b' hb sh f => ?_⟩
      have sys4 := sys3.step hb sh f
      have r1' := r1.step (deed := v2) (n := v3) rl v30
      refine neq_off ?_
      refine ⟨p1, a1, b', m1, _, rfl, sys4.h1, sys4.d1, r1'.ok (by omega), ?_⟩
      refine ⟨p2, a2, b2, m2, s2, rfl, sys4.h2, sys4.d2, r2.ok (by omega), ?_⟩
      exact ⟨_, _, _, _, _, _, b', _, b2, s2, rfl, sys4, r1', r2.mono (by omega)⟩
    · refine ⟨m2, s2, v2, v3, _, rfl, sys3.d2, r2.f, v30, by omega, ?_⟩
      obtain ⟨stM, g1, g2, e2⟩ := sys3.swap.model (s' := (stepS v2 v3 (.tup [.str "own", .int (0 + (i : Int)), .tup [.str "prevote", .int v3, .non]]) s2).1)
      refine ⟨p2, a2, b2, s2, v2, v3, _, rfl, g1, v30, by omega, fun M4 b' hb sh f => ?_⟩
      have sys4 := (sys3.swap.step hb sh f).swap
      have r2' := r2.step (deed := v2) (n := v3) rl v30
      refine neq_off ?_
      refine ⟨p1, a1, b1, m1, s1, rfl, sys4.h1, sys4.d1, r1.ok (by omega), ?_⟩
      refine ⟨p2, a2, b', m2, _, rfl, sys4.h2, sys4.d2, r2'.ok (by omega), ?_⟩
      exact ⟨_, _, _, _, _, _, b1, s1, b', _, rfl, sys4, r1.mono (by omega), r2'⟩
  · rintro env M' ⟨x4, x5, x6, x7, x8, x9, b1', s1, b2', s2, rfl, _⟩
    exact ⟨fun _ => none, (fun _ _ h => by cases h), k⟩
end
end Vk
set_option linter.unusedVariables false
set_option linter.unusedSimpArgs false
namespace Vk
open PySem PySem.Spec PyProof.Rows L2
theorem fun_mkD {K : PySem.W.Frag} {x qual : Str} {st : Stmt} {f : Addr} {oc : Value} {od : Option Addr} {kV doc pm : Value} {an : Option Addr} {cd ct : Value} {sl : Array (Option Value)} (l : K.lookup f = some ⟨oc, od, .func (PySem.W.fnOf x qual (defArgs st) (defBody st) (defScope st) .none kV doc pm an cd ct), sl⟩) (c : PySem.W.codeIn K cd qual = true) (k : PySem.W.keepIn K (.ref f) = true) : L2.Fun K x qual st f (PySem.W.fnOf x qual (defArgs st) (defBody st) (defScope st) .none kV doc pm an cd ct) := fun_mk l c k
def spLawD (K : PySem.W.Frag) : Sp := fun vs H Q _ => ∃ (a : Addr) (ns : List Int), vs = [.ref a] ∧ SqL K H a (ns.map V.int) ∧ ns.length ≤ 63 ∧ ∀ H', Q (.bl true) H'
theorem law_of {P : Program} {w : World} {K : PySem.W.Frag} {mg : Str → Option Value} {base : Heap} {k : Nat} {f : Addr} {fd : FuncData} (g : Gk P w K mg base k f fd ["script"] (spD K F_law)) : Gk P w K mg base k f fd ["script"] (spLawD K) := by
  refine Gk.weak (fun vs H Q E h => ?_) g
  obtain ⟨a, ns, rfl, hS, hl, q⟩ := h
  have e : hid (fun _ => false) (fun _ => none) H = H := by funext b; rfl
  refine ⟨fun _ => false, [.scr ns], fun _ => none, fun d _ => d = .bl true, .cons (.scr (by rw [e]; exact hS)) .nil, ⟨fun _ _ z => (by cases z), fun _ z => (by cases z)⟩, ⟨ns, rfl, hl, rfl, rfl⟩, ?_⟩
  rintro d M' v H' rfl g rd hr
  cases rd
  exact q H'
theorem all_mk {l : PySem.W.OpenLaw} {w : World} {K : PySem.W.Frag} {h : Heap} {mg : Str → Option Value} {fa f_state f_pick f_lose f_operates f_due f_told f_right f_law f_Shelf_append f_Shelf_operate f_Shelf_need_power f_Shelf_fail f_Shelf_sync f_Shelf_fail_after f_Shelf_power f_Shelf_records f_Shelf_pending f_Shelf_is_on f_Shelf_losses f_Shelf_init C_Shelf C_TrothError C_InvalidArgument C_PowerOff C_HouseClosed : Addr} (X : K.In h) (G : h.Ns mainGlobals mg) (hfa : mg "law" = some (.ref fa))
    {od_state an_state od_pick an_pick od_lose an_lose od_operates an_operates od_due an_due od_told an_told od_right an_right od_law an_law od_Shelf_append an_Shelf_append od_Shelf_operate an_Shelf_operate od_Shelf_need_power an_Shelf_need_power od_Shelf_fail an_Shelf_fail od_Shelf_sync an_Shelf_sync od_Shelf_fail_after an_Shelf_fail_after od_Shelf_power an_Shelf_power od_Shelf_records an_Shelf_records od_Shelf_pending an_Shelf_pending od_Shelf_is_on an_Shelf_is_on od_Shelf_losses an_Shelf_losses od_Shelf_init an_Shelf_init : Option Addr} {sl_state sl_pick sl_lose sl_operates sl_due sl_told sl_right sl_law sl_Shelf_append sl_Shelf_operate sl_Shelf_need_power sl_Shelf_fail sl_Shelf_sync sl_Shelf_fail_after sl_Shelf_power sl_Shelf_records sl_Shelf_pending sl_Shelf_is_on sl_Shelf_losses sl_Shelf_init : Array (Option Value)}
    {oc_state kV_state dc_state pm_state cd_state ct_state oc_pick kV_pick dc_pick pm_pick cd_pick ct_pick oc_lose kV_lose dc_lose pm_lose cd_lose ct_lose oc_operates kV_operates dc_operates pm_operates cd_operates ct_operates oc_due kV_due dc_due pm_due cd_due ct_due oc_told kV_told dc_told pm_told cd_told ct_told oc_right kV_right dc_right pm_right cd_right ct_right oc_law kV_law dc_law pm_law cd_law ct_law oc_Shelf_append kV_Shelf_append dc_Shelf_append pm_Shelf_append cd_Shelf_append ct_Shelf_append oc_Shelf_operate kV_Shelf_operate dc_Shelf_operate pm_Shelf_operate cd_Shelf_operate ct_Shelf_operate oc_Shelf_need_power kV_Shelf_need_power dc_Shelf_need_power pm_Shelf_need_power cd_Shelf_need_power ct_Shelf_need_power oc_Shelf_fail kV_Shelf_fail dc_Shelf_fail pm_Shelf_fail cd_Shelf_fail ct_Shelf_fail oc_Shelf_sync kV_Shelf_sync dc_Shelf_sync pm_Shelf_sync cd_Shelf_sync ct_Shelf_sync oc_Shelf_fail_after kV_Shelf_fail_after dc_Shelf_fail_after pm_Shelf_fail_after cd_Shelf_fail_after ct_Shelf_fail_after oc_Shelf_power kV_Shelf_power dc_Shelf_power pm_Shelf_power cd_Shelf_power ct_Shelf_power oc_Shelf_records kV_Shelf_records dc_Shelf_records pm_Shelf_records cd_Shelf_records ct_Shelf_records oc_Shelf_pending kV_Shelf_pending dc_Shelf_pending pm_Shelf_pending cd_Shelf_pending ct_Shelf_pending oc_Shelf_is_on kV_Shelf_is_on dc_Shelf_is_on pm_Shelf_is_on cd_Shelf_is_on ct_Shelf_is_on oc_Shelf_losses kV_Shelf_losses dc_Shelf_losses pm_Shelf_losses cd_Shelf_losses ct_Shelf_losses oc_Shelf_init kV_Shelf_init dc_Shelf_init pm_Shelf_init cd_Shelf_init ct_Shelf_init : Value}
    (a_state : PySem.W.nsIn K mainGlobals "_law_state" = some (some (.ref f_state)))
    (l_state : K.lookup f_state = some ⟨oc_state, od_state, .func (PySem.W.fnOf "_law_state" "_law_state" (defArgs s_state) (defBody s_state) (defScope s_state) .none kV_state dc_state pm_state an_state cd_state ct_state), sl_state⟩)
    (c_state : PySem.W.codeIn K cd_state "_law_state" = true) (k_state : PySem.W.keepIn K (.ref f_state) = true)
    (a_pick : PySem.W.nsIn K mainGlobals "_law_pick" = some (some (.ref f_pick)))
    (l_pick : K.lookup f_pick = some ⟨oc_pick, od_pick, .func (PySem.W.fnOf "_law_pick" "_law_pick" (defArgs s_pick) (defBody s_pick) (defScope s_pick) .none kV_pick dc_pick pm_pick an_pick cd_pick ct_pick), sl_pick⟩)
    (c_pick : PySem.W.codeIn K cd_pick "_law_pick" = true) (k_pick : PySem.W.keepIn K (.ref f_pick) = true)
    (a_lose : PySem.W.nsIn K mainGlobals "_law_lose" = some (some (.ref f_lose)))
    (l_lose : K.lookup f_lose = some ⟨oc_lose, od_lose, .func (PySem.W.fnOf "_law_lose" "_law_lose" (defArgs s_lose) (defBody s_lose) (defScope s_lose) .none kV_lose dc_lose pm_lose an_lose cd_lose ct_lose), sl_lose⟩)
    (c_lose : PySem.W.codeIn K cd_lose "_law_lose" = true) (k_lose : PySem.W.keepIn K (.ref f_lose) = true)
    (a_operates : PySem.W.nsIn K mainGlobals "_law_operates" = some (some (.ref f_operates)))
    (l_operates : K.lookup f_operates = some ⟨oc_operates, od_operates, .func (PySem.W.fnOf "_law_operates" "_law_operates" (defArgs s_operates) (defBody s_operates) (defScope s_operates) .none kV_operates dc_operates pm_operates an_operates cd_operates ct_operates), sl_operates⟩)
    (c_operates : PySem.W.codeIn K cd_operates "_law_operates" = true) (k_operates : PySem.W.keepIn K (.ref f_operates) = true)
    (a_due : PySem.W.nsIn K mainGlobals "_law_due" = some (some (.ref f_due)))
    (l_due : K.lookup f_due = some ⟨oc_due, od_due, .func (PySem.W.fnOf "_law_due" "_law_due" (defArgs s_due) (defBody s_due) (defScope s_due) .none kV_due dc_due pm_due an_due cd_due ct_due), sl_due⟩)
    (c_due : PySem.W.codeIn K cd_due "_law_due" = true) (k_due : PySem.W.keepIn K (.ref f_due) = true)
    (a_told : PySem.W.nsIn K mainGlobals "_law_told" = some (some (.ref f_told)))
    (l_told : K.lookup f_told = some ⟨oc_told, od_told, .func (PySem.W.fnOf "_law_told" "_law_told" (defArgs s_told) (defBody s_told) (defScope s_told) .none kV_told dc_told pm_told an_told cd_told ct_told), sl_told⟩)
    (c_told : PySem.W.codeIn K cd_told "_law_told" = true) (k_told : PySem.W.keepIn K (.ref f_told) = true)
    (a_right : PySem.W.nsIn K mainGlobals "_law_right" = some (some (.ref f_right)))
    (l_right : K.lookup f_right = some ⟨oc_right, od_right, .func (PySem.W.fnOf "_law_right" "_law_right" (defArgs s_right) (defBody s_right) (defScope s_right) .none kV_right dc_right pm_right an_right cd_right ct_right), sl_right⟩)
    (c_right : PySem.W.codeIn K cd_right "_law_right" = true) (k_right : PySem.W.keepIn K (.ref f_right) = true)
    (a_law : PySem.W.nsIn K mainGlobals "law" = some (some (.ref f_law)))
    (l_law : K.lookup f_law = some ⟨oc_law, od_law, .func (PySem.W.fnOf "law" "law" (defArgs s_law) (defBody s_law) (defScope s_law) .none kV_law dc_law pm_law an_law cd_law ct_law), sl_law⟩)
    (c_law : PySem.W.codeIn K cd_law "law" = true) (k_law : PySem.W.keepIn K (.ref f_law) = true)
    (a_Shelf_append : PySem.W.findIn K (.ref C_Shelf) "append" = some (some (.ref f_Shelf_append))) (i_Shelf_append : PySem.W.isFn K (.ref f_Shelf_append) = true)
    (l_Shelf_append : K.lookup f_Shelf_append = some ⟨oc_Shelf_append, od_Shelf_append, .func (PySem.W.fnOf "append" "Shelf.append" (defArgs s_Shelf_append) (defBody s_Shelf_append) (defScope s_Shelf_append) .none kV_Shelf_append dc_Shelf_append pm_Shelf_append an_Shelf_append cd_Shelf_append ct_Shelf_append), sl_Shelf_append⟩)
    (c_Shelf_append : PySem.W.codeIn K cd_Shelf_append "Shelf.append" = true) (k_Shelf_append : PySem.W.keepIn K (.ref f_Shelf_append) = true)
    (a_Shelf_operate : PySem.W.findIn K (.ref C_Shelf) "_operate" = some (some (.ref f_Shelf_operate))) (i_Shelf_operate : PySem.W.isFn K (.ref f_Shelf_operate) = true)
    (l_Shelf_operate : K.lookup f_Shelf_operate = some ⟨oc_Shelf_operate, od_Shelf_operate, .func (PySem.W.fnOf "_operate" "Shelf._operate" (defArgs s_Shelf_operate) (defBody s_Shelf_operate) (defScope s_Shelf_operate) .none kV_Shelf_operate dc_Shelf_operate pm_Shelf_operate an_Shelf_operate cd_Shelf_operate ct_Shelf_operate), sl_Shelf_operate⟩)
    (c_Shelf_operate : PySem.W.codeIn K cd_Shelf_operate "Shelf._operate" = true) (k_Shelf_operate : PySem.W.keepIn K (.ref f_Shelf_operate) = true)
    (a_Shelf_need_power : PySem.W.findIn K (.ref C_Shelf) "_need_power" = some (some (.ref f_Shelf_need_power))) (i_Shelf_need_power : PySem.W.isFn K (.ref f_Shelf_need_power) = true)
    (l_Shelf_need_power : K.lookup f_Shelf_need_power = some ⟨oc_Shelf_need_power, od_Shelf_need_power, .func (PySem.W.fnOf "_need_power" "Shelf._need_power" (defArgs s_Shelf_need_power) (defBody s_Shelf_need_power) (defScope s_Shelf_need_power) .none kV_Shelf_need_power dc_Shelf_need_power pm_Shelf_need_power an_Shelf_need_power cd_Shelf_need_power ct_Shelf_need_power), sl_Shelf_need_power⟩)
    (c_Shelf_need_power : PySem.W.codeIn K cd_Shelf_need_power "Shelf._need_power" = true) (k_Shelf_need_power : PySem.W.keepIn K (.ref f_Shelf_need_power) = true)
    (a_Shelf_fail : PySem.W.findIn K (.ref C_Shelf) "_fail" = some (some (.ref f_Shelf_fail))) (i_Shelf_fail : PySem.W.isFn K (.ref f_Shelf_fail) = true)
    (l_Shelf_fail : K.lookup f_Shelf_fail = some ⟨oc_Shelf_fail, od_Shelf_fail, .func (PySem.W.fnOf "_fail" "Shelf._fail" (defArgs s_Shelf_fail) (defBody s_Shelf_fail) (defScope s_Shelf_fail) .none kV_Shelf_fail dc_Shelf_fail pm_Shelf_fail an_Shelf_fail cd_Shelf_fail ct_Shelf_fail), sl_Shelf_fail⟩)
    (c_Shelf_fail : PySem.W.codeIn K cd_Shelf_fail "Shelf._fail" = true) (k_Shelf_fail : PySem.W.keepIn K (.ref f_Shelf_fail) = true)
    (a_Shelf_sync : PySem.W.findIn K (.ref C_Shelf) "sync" = some (some (.ref f_Shelf_sync))) (i_Shelf_sync : PySem.W.isFn K (.ref f_Shelf_sync) = true)
    (l_Shelf_sync : K.lookup f_Shelf_sync = some ⟨oc_Shelf_sync, od_Shelf_sync, .func (PySem.W.fnOf "sync" "Shelf.sync" (defArgs s_Shelf_sync) (defBody s_Shelf_sync) (defScope s_Shelf_sync) .none kV_Shelf_sync dc_Shelf_sync pm_Shelf_sync an_Shelf_sync cd_Shelf_sync ct_Shelf_sync), sl_Shelf_sync⟩)
    (c_Shelf_sync : PySem.W.codeIn K cd_Shelf_sync "Shelf.sync" = true) (k_Shelf_sync : PySem.W.keepIn K (.ref f_Shelf_sync) = true)
    (a_Shelf_fail_after : PySem.W.findIn K (.ref C_Shelf) "fail_after" = some (some (.ref f_Shelf_fail_after))) (i_Shelf_fail_after : PySem.W.isFn K (.ref f_Shelf_fail_after) = true)
    (l_Shelf_fail_after : K.lookup f_Shelf_fail_after = some ⟨oc_Shelf_fail_after, od_Shelf_fail_after, .func (PySem.W.fnOf "fail_after" "Shelf.fail_after" (defArgs s_Shelf_fail_after) (defBody s_Shelf_fail_after) (defScope s_Shelf_fail_after) .none kV_Shelf_fail_after dc_Shelf_fail_after pm_Shelf_fail_after an_Shelf_fail_after cd_Shelf_fail_after ct_Shelf_fail_after), sl_Shelf_fail_after⟩)
    (c_Shelf_fail_after : PySem.W.codeIn K cd_Shelf_fail_after "Shelf.fail_after" = true) (k_Shelf_fail_after : PySem.W.keepIn K (.ref f_Shelf_fail_after) = true)
    (a_Shelf_power : PySem.W.findIn K (.ref C_Shelf) "power" = some (some (.ref f_Shelf_power))) (i_Shelf_power : PySem.W.isFn K (.ref f_Shelf_power) = true)
    (l_Shelf_power : K.lookup f_Shelf_power = some ⟨oc_Shelf_power, od_Shelf_power, .func (PySem.W.fnOf "power" "Shelf.power" (defArgs s_Shelf_power) (defBody s_Shelf_power) (defScope s_Shelf_power) .none kV_Shelf_power dc_Shelf_power pm_Shelf_power an_Shelf_power cd_Shelf_power ct_Shelf_power), sl_Shelf_power⟩)
    (c_Shelf_power : PySem.W.codeIn K cd_Shelf_power "Shelf.power" = true) (k_Shelf_power : PySem.W.keepIn K (.ref f_Shelf_power) = true)
    (a_Shelf_records : PySem.W.findIn K (.ref C_Shelf) "records" = some (some (.ref f_Shelf_records))) (i_Shelf_records : PySem.W.isFn K (.ref f_Shelf_records) = true)
    (l_Shelf_records : K.lookup f_Shelf_records = some ⟨oc_Shelf_records, od_Shelf_records, .func (PySem.W.fnOf "records" "Shelf.records" (defArgs s_Shelf_records) (defBody s_Shelf_records) (defScope s_Shelf_records) .none kV_Shelf_records dc_Shelf_records pm_Shelf_records an_Shelf_records cd_Shelf_records ct_Shelf_records), sl_Shelf_records⟩)
    (c_Shelf_records : PySem.W.codeIn K cd_Shelf_records "Shelf.records" = true) (k_Shelf_records : PySem.W.keepIn K (.ref f_Shelf_records) = true)
    (a_Shelf_pending : PySem.W.findIn K (.ref C_Shelf) "pending" = some (some (.ref f_Shelf_pending))) (i_Shelf_pending : PySem.W.isFn K (.ref f_Shelf_pending) = true)
    (l_Shelf_pending : K.lookup f_Shelf_pending = some ⟨oc_Shelf_pending, od_Shelf_pending, .func (PySem.W.fnOf "pending" "Shelf.pending" (defArgs s_Shelf_pending) (defBody s_Shelf_pending) (defScope s_Shelf_pending) .none kV_Shelf_pending dc_Shelf_pending pm_Shelf_pending an_Shelf_pending cd_Shelf_pending ct_Shelf_pending), sl_Shelf_pending⟩)
    (c_Shelf_pending : PySem.W.codeIn K cd_Shelf_pending "Shelf.pending" = true) (k_Shelf_pending : PySem.W.keepIn K (.ref f_Shelf_pending) = true)
    (a_Shelf_is_on : PySem.W.findIn K (.ref C_Shelf) "is_on" = some (some (.ref f_Shelf_is_on))) (i_Shelf_is_on : PySem.W.isFn K (.ref f_Shelf_is_on) = true)
    (l_Shelf_is_on : K.lookup f_Shelf_is_on = some ⟨oc_Shelf_is_on, od_Shelf_is_on, .func (PySem.W.fnOf "is_on" "Shelf.is_on" (defArgs s_Shelf_is_on) (defBody s_Shelf_is_on) (defScope s_Shelf_is_on) .none kV_Shelf_is_on dc_Shelf_is_on pm_Shelf_is_on an_Shelf_is_on cd_Shelf_is_on ct_Shelf_is_on), sl_Shelf_is_on⟩)
    (c_Shelf_is_on : PySem.W.codeIn K cd_Shelf_is_on "Shelf.is_on" = true) (k_Shelf_is_on : PySem.W.keepIn K (.ref f_Shelf_is_on) = true)
    (a_Shelf_losses : PySem.W.findIn K (.ref C_Shelf) "losses" = some (some (.ref f_Shelf_losses))) (i_Shelf_losses : PySem.W.isFn K (.ref f_Shelf_losses) = true)
    (l_Shelf_losses : K.lookup f_Shelf_losses = some ⟨oc_Shelf_losses, od_Shelf_losses, .func (PySem.W.fnOf "losses" "Shelf.losses" (defArgs s_Shelf_losses) (defBody s_Shelf_losses) (defScope s_Shelf_losses) .none kV_Shelf_losses dc_Shelf_losses pm_Shelf_losses an_Shelf_losses cd_Shelf_losses ct_Shelf_losses), sl_Shelf_losses⟩)
    (c_Shelf_losses : PySem.W.codeIn K cd_Shelf_losses "Shelf.losses" = true) (k_Shelf_losses : PySem.W.keepIn K (.ref f_Shelf_losses) = true)
    (a_Shelf_init : PySem.W.findIn K (.ref C_Shelf) "__init__" = some (some (.ref f_Shelf_init))) (i_Shelf_init : PySem.W.isFn K (.ref f_Shelf_init) = true)
    (l_Shelf_init : K.lookup f_Shelf_init = some ⟨oc_Shelf_init, od_Shelf_init, .func (PySem.W.fnOf "__init__" "Shelf.__init__" (defArgs s_Shelf_init) (defBody s_Shelf_init) (defScope s_Shelf_init) .none kV_Shelf_init dc_Shelf_init pm_Shelf_init an_Shelf_init cd_Shelf_init ct_Shelf_init), sl_Shelf_init⟩)
    (c_Shelf_init : PySem.W.codeIn K cd_Shelf_init "Shelf.__init__" = true) (k_Shelf_init : PySem.W.keepIn K (.ref f_Shelf_init) = true)
    (ac_Shelf : PySem.W.nsIn K mainGlobals "Shelf" = some (some (.ref C_Shelf)))
    (pg_Shelf : PySem.W.plainGet K C_Shelf Str.empty = true) (hd_Shelf : PySem.W.hasDictIn K C_Shelf = true) (po_Shelf : PySem.W.plainOver K C_Shelf = true) (sa_Shelf : PySem.W.findIn K (.ref C_Shelf) "__setattr__" = some (some (.builtin "object.__setattr__"))) (mk_Shelf : PySem.W.makesIn K C_Shelf = true) (kc_Shelf : PySem.W.keepIn K (.ref C_Shelf) = true)
    (ac_TrothError : PySem.W.nsIn K mainGlobals "TrothError" = some (some (.ref C_TrothError)))
    (ac_InvalidArgument : PySem.W.nsIn K mainGlobals "InvalidArgument" = some (some (.ref C_InvalidArgument)))
    (ac_PowerOff : PySem.W.nsIn K mainGlobals "PowerOff" = some (some (.ref C_PowerOff)))
    (ac_HouseClosed : PySem.W.nsIn K mainGlobals "HouseClosed" = some (some (.ref C_HouseClosed)))
    (ex_TrothError : PySem.W.excIn K C_TrothError [.type "ValueError", .type "Exception", .type "BaseException", .type "object"] "ValueError.__new__" = true) (kc_TrothError : PySem.W.keepIn K (.ref C_TrothError) = true) (sb_TrothError : PySem.W.subIn K (.ref C_TrothError) (.type "BaseException") = some true) (ty_TrothError : PySem.W.typeIn K (.ref C_TrothError) = some (.type "type"))
    (ex_InvalidArgument : PySem.W.excIn K C_InvalidArgument [.type "ValueError", .type "Exception", .type "BaseException", .type "object"] "ValueError.__new__" = true) (kc_InvalidArgument : PySem.W.keepIn K (.ref C_InvalidArgument) = true) (sb_InvalidArgument : PySem.W.subIn K (.ref C_InvalidArgument) (.type "BaseException") = some true) (ty_InvalidArgument : PySem.W.typeIn K (.ref C_InvalidArgument) = some (.type "type"))
    (ex_PowerOff : PySem.W.excIn K C_PowerOff [.type "ValueError", .type "Exception", .type "BaseException", .type "object"] "ValueError.__new__" = true) (kc_PowerOff : PySem.W.keepIn K (.ref C_PowerOff) = true) (sb_PowerOff : PySem.W.subIn K (.ref C_PowerOff) (.type "BaseException") = some true) (ty_PowerOff : PySem.W.typeIn K (.ref C_PowerOff) = some (.type "type"))
    (ex_HouseClosed : PySem.W.excIn K C_HouseClosed [.type "ValueError", .type "Exception", .type "BaseException", .type "object"] "ValueError.__new__" = true) (kc_HouseClosed : PySem.W.keepIn K (.ref C_HouseClosed) = true) (sb_HouseClosed : PySem.W.subIn K (.ref C_HouseClosed) (.type "BaseException") = some true) (ty_HouseClosed : PySem.W.typeIn K (.ref C_HouseClosed) = some (.type "type"))
    (hd_TrothError : PySem.W.hasDictIn K C_TrothError = true)
    (hd_InvalidArgument : PySem.W.hasDictIn K C_InvalidArgument = true)
    (hd_PowerOff : PySem.W.hasDictIn K C_PowerOff = true)
    (hd_HouseClosed : PySem.W.hasDictIn K C_HouseClosed = true)
    (su_PowerOff_PowerOff : PySem.W.subIn K (.ref C_PowerOff) (.ref C_PowerOff) = some true)
    (su_PowerOff_TrothError : PySem.W.subIn K (.ref C_PowerOff) (.ref C_TrothError) = some true)
    (su_TrothError_PowerOff : PySem.W.subIn K (.ref C_TrothError) (.ref C_PowerOff) = some false)
    (su_TrothError_TrothError : PySem.W.subIn K (.ref C_TrothError) (.ref C_TrothError) = some true)
    (su_PowerOff_InvalidArgument : PySem.W.subIn K (.ref C_PowerOff) (.ref C_InvalidArgument) = some false)
    (su_PowerOff_HouseClosed : PySem.W.subIn K (.ref C_PowerOff) (.ref C_HouseClosed) = some false)
    (x1 : PySem.W.findIn K (.ref C_PowerOff) "__getattribute__" = some (some (.builtin "BaseException.__getattribute__")))
    (x2 : PySem.W.findIn K (.ref C_PowerOff) "__getattr__" = some none)
    (x4 : PySem.W.findIn K (.ref C_PowerOff) "__class__" = some (some (.builtin "object.__class__")))
    (x5 : PySem.W.specialIn K (.builtin "object.__class__") "__get__" = some (some (.builtin "getset_descriptor.__get__")))
    (x6 : PySem.W.takesIn K (.builtin "object.__class__") = some true)
    (x7 : PySem.W.mroIn K C_PowerOff (.type "object") = some true)
    (x8 : PySem.W.subIn K (.ref C_PowerOff) (.type "ValueError") = some true)
    (nf_f_lasting : PySem.W.findIn K (.ref C_Shelf) "_lasting" = some none)
    (nf_f_waiting : PySem.W.findIn K (.ref C_Shelf) "_waiting" = some none)
    (nf_f_on : PySem.W.findIn K (.ref C_Shelf) "_is_on" = some none)
    (nf_f_losses : PySem.W.findIn K (.ref C_Shelf) "_losses" = some none)
    (nf_f_left : PySem.W.findIn K (.ref C_Shelf) "_left" = some none)
    (z_int : PySem.W.nsIn K mainGlobals "int" = some none)
    (z_list : PySem.W.nsIn K mainGlobals "list" = some none)
    (z_isinstance : PySem.W.nsIn K mainGlobals "isinstance" = some none)
    (z_len : PySem.W.nsIn K mainGlobals "len" = some none)
    (z_max : PySem.W.nsIn K mainGlobals "max" = some none)
    (z_min : PySem.W.nsIn K mainGlobals "min" = some none)
    (z_range : PySem.W.nsIn K mainGlobals "range" = some none)
    (z_repr : PySem.W.nsIn K mainGlobals "repr" = some none)
    (z_ValueError : PySem.W.nsIn K mainGlobals "ValueError" = some none)
    : ∃ fd : FuncData, (∀ (s : Shared) (v : Value), BindsTo s fd ⟨[v], []⟩ [("script", v)]) ∧ ∀ base : Heap, K.In base → base.Ns mainGlobals mg → Gk l.prog w K mg base 5 fa fd ["script"] (spLawD K) := by
  have e := hfa.symm.trans (PySem.W.mg_of X G a_law)
  cases e
  have Fn_state := fun_mkD (st := s_state) l_state c_state k_state
  have b_state := Fn_state.binds (ps := ["script"]) fun _ _ _ _ _ _ us hl => match us, hl with | [_], _ => rfl
  have Fn_pick := fun_mkD (st := s_pick) l_pick c_pick k_pick
  have b_pick := Fn_pick.binds (ps := ["state", "many"]) fun _ _ _ _ _ _ us hl => match us, hl with | [_, _], _ => rfl
  have Fn_lose := fun_mkD (st := s_lose) l_lose c_lose k_lose
  have b_lose := Fn_lose.binds (ps := ["model"]) fun _ _ _ _ _ _ us hl => match us, hl with | [_], _ => rfl
  have Fn_operates := fun_mkD (st := s_operates) l_operates c_operates k_operates
  have b_operates := Fn_operates.binds (ps := ["model"]) fun _ _ _ _ _ _ us hl => match us, hl with | [_], _ => rfl
  have Fn_due := fun_mkD (st := s_due) l_due c_due k_due
  have b_due := Fn_due.binds (ps := ["model", "deed", "number", "record"]) fun _ _ _ _ _ _ us hl => match us, hl with | [_, _, _, _], _ => rfl
  have Fn_told := fun_mkD (st := s_told) l_told c_told k_told
  have b_told := Fn_told.binds (ps := ["shelf", "deed", "number", "record"]) fun _ _ _ _ _ _ us hl => match us, hl with | [_, _, _, _], _ => rfl
  have Fn_right := fun_mkD (st := s_right) l_right c_right k_right
  have b_right := Fn_right.binds (ps := ["shelf", "model"]) fun _ _ _ _ _ _ us hl => match us, hl with | [_, _], _ => rfl
  have Fn_law := fun_mkD (st := s_law) l_law c_law k_law
  have Fn_Shelf_append := fun_mkD (st := s_Shelf_append) l_Shelf_append c_Shelf_append k_Shelf_append
  have b_Shelf_append := Fn_Shelf_append.binds (ps := ["self", "record"]) fun _ _ _ _ _ _ us hl => match us, hl with | [_, _], _ => rfl
  have Fn_Shelf_operate := fun_mkD (st := s_Shelf_operate) l_Shelf_operate c_Shelf_operate k_Shelf_operate
  have b_Shelf_operate := Fn_Shelf_operate.binds (ps := ["self"]) fun _ _ _ _ _ _ us hl => match us, hl with | [_], _ => rfl
  have Fn_Shelf_need_power := fun_mkD (st := s_Shelf_need_power) l_Shelf_need_power c_Shelf_need_power k_Shelf_need_power
  have b_Shelf_need_power := Fn_Shelf_need_power.binds (ps := ["self"]) fun _ _ _ _ _ _ us hl => match us, hl with | [_], _ => rfl
  have Fn_Shelf_fail := fun_mkD (st := s_Shelf_fail) l_Shelf_fail c_Shelf_fail k_Shelf_fail
  have b_Shelf_fail := Fn_Shelf_fail.binds (ps := ["self"]) fun _ _ _ _ _ _ us hl => match us, hl with | [_], _ => rfl
  have Fn_Shelf_sync := fun_mkD (st := s_Shelf_sync) l_Shelf_sync c_Shelf_sync k_Shelf_sync
  have b_Shelf_sync := Fn_Shelf_sync.binds (ps := ["self"]) fun _ _ _ _ _ _ us hl => match us, hl with | [_], _ => rfl
  have Fn_Shelf_fail_after := fun_mkD (st := s_Shelf_fail_after) l_Shelf_fail_after c_Shelf_fail_after k_Shelf_fail_after
  have b_Shelf_fail_after := Fn_Shelf_fail_after.binds (ps := ["self", "operations"]) fun _ _ _ _ _ _ us hl => match us, hl with | [_, _], _ => rfl
  have Fn_Shelf_power := fun_mkD (st := s_Shelf_power) l_Shelf_power c_Shelf_power k_Shelf_power
  have b_Shelf_power := Fn_Shelf_power.binds (ps := ["self", "kept"]) fun _ _ _ _ _ _ us hl => match us, hl with | [_, _], _ => rfl
  have Fn_Shelf_records := fun_mkD (st := s_Shelf_records) l_Shelf_records c_Shelf_records k_Shelf_records
  have b_Shelf_records := Fn_Shelf_records.binds (ps := ["self"]) fun _ _ _ _ _ _ us hl => match us, hl with | [_], _ => rfl
  have Fn_Shelf_pending := fun_mkD (st := s_Shelf_pending) l_Shelf_pending c_Shelf_pending k_Shelf_pending
  have b_Shelf_pending := Fn_Shelf_pending.binds (ps := ["self"]) fun _ _ _ _ _ _ us hl => match us, hl with | [_], _ => rfl
  have Fn_Shelf_is_on := fun_mkD (st := s_Shelf_is_on) l_Shelf_is_on c_Shelf_is_on k_Shelf_is_on
  have b_Shelf_is_on := Fn_Shelf_is_on.binds (ps := ["self"]) fun _ _ _ _ _ _ us hl => match us, hl with | [_], _ => rfl
  have Fn_Shelf_losses := fun_mkD (st := s_Shelf_losses) l_Shelf_losses c_Shelf_losses k_Shelf_losses
  have b_Shelf_losses := Fn_Shelf_losses.binds (ps := ["self"]) fun _ _ _ _ _ _ us hl => match us, hl with | [_], _ => rfl
  have Fn_Shelf_init := fun_mkD (st := s_Shelf_init) l_Shelf_init c_Shelf_init k_Shelf_init
  have b_Shelf_init := Fn_Shelf_init.binds (ps := ["self"]) fun _ _ _ _ _ _ us hl => match us, hl with | [_], _ => rfl
  refine ⟨PySem.W.fnOf "law" "law" (defArgs s_law) (defBody s_law) (defScope s_law) .none kV_law dc_law pm_law an_law cd_law ct_law, fun s v => .of_eq rfl, fun base _ _ => ?_⟩
  have T : Tx K mg C_Shelf C_TrothError C_InvalidArgument C_PowerOff C_HouseClosed := { e_TrothError := ⟨PySem.W.mg_of X G ac_TrothError, ex_TrothError, kc_TrothError, sb_TrothError, ty_TrothError⟩, e_InvalidArgument := ⟨PySem.W.mg_of X G ac_InvalidArgument, ex_InvalidArgument, kc_InvalidArgument, sb_InvalidArgument, ty_InvalidArgument⟩, e_PowerOff := ⟨PySem.W.mg_of X G ac_PowerOff, ex_PowerOff, kc_PowerOff, sb_PowerOff, ty_PowerOff⟩, e_HouseClosed := ⟨PySem.W.mg_of X G ac_HouseClosed, ex_HouseClosed, kc_HouseClosed, sb_HouseClosed, ty_HouseClosed⟩, x_exc := ⟨x1, x2, sb_PowerOff, hd_PowerOff, x4, x5, x6, x7⟩, x_exm := PySem.W.exm_ref sb_PowerOff hd_PowerOff ty_PowerOff su_PowerOff_PowerOff, x_TE := kit_not (Ne.symm (sub_ne su_TrothError_TrothError su_TrothError_PowerOff)) hd_TrothError ty_TrothError su_PowerOff_TrothError, x_IA := kit_not (sub_ne su_PowerOff_PowerOff su_PowerOff_InvalidArgument) hd_InvalidArgument ty_InvalidArgument su_PowerOff_InvalidArgument, x_HC := kit_not (sub_ne su_PowerOff_PowerOff su_PowerOff_HouseClosed) hd_HouseClosed ty_HouseClosed su_PowerOff_HouseClosed, x_VE := kit_type (by decide +kernel) x8, f_lasting := ⟨⟨pg_Shelf, hd_Shelf, po_Shelf, sa_Shelf⟩, nf_f_lasting⟩, f_waiting := ⟨⟨pg_Shelf, hd_Shelf, po_Shelf, sa_Shelf⟩, nf_f_waiting⟩, f_on := ⟨⟨pg_Shelf, hd_Shelf, po_Shelf, sa_Shelf⟩, nf_f_on⟩, f_losses := ⟨⟨pg_Shelf, hd_Shelf, po_Shelf, sa_Shelf⟩, nf_f_losses⟩, f_left := ⟨⟨pg_Shelf, hd_Shelf, po_Shelf, sa_Shelf⟩, nf_f_left⟩, int := PySem.W.mg_none_of X G z_int, list := PySem.W.mg_none_of X G z_list, isinstance := PySem.W.mg_none_of X G z_isinstance, len := PySem.W.mg_none_of X G z_len, max := PySem.W.mg_none_of X G z_max, min := PySem.W.mg_none_of X G z_min, range := PySem.W.mg_none_of X G z_range, repr := PySem.W.mg_none_of X G z_repr, ValueError := PySem.W.mg_none_of X G z_ValueError }
  have C_state : DCal l.prog w K mg base "_law_state" 1 F_state := ⟨f_state, _, _, ok_state Fn_state T, PySem.W.mg_of X G a_state, k_state, b_state⟩
  have C_pick : DCal l.prog w K mg base "_law_pick" 1 F_pick := ⟨f_pick, _, _, ok_pick Fn_pick T, PySem.W.mg_of X G a_pick, k_pick, b_pick⟩
  have C_lose : DCal l.prog w K mg base "_law_lose" 1 F_lose := ⟨f_lose, _, _, ok_lose Fn_lose T, PySem.W.mg_of X G a_lose, k_lose, b_lose⟩
  have C_operates : DCal l.prog w K mg base "_law_operates" 2 F_operates := ⟨f_operates, _, _, ok_operates Fn_operates T C_lose, PySem.W.mg_of X G a_operates, k_operates, b_operates⟩
  have C_due : DCal l.prog w K mg base "_law_due" 3 F_due := ⟨f_due, _, _, ok_due Fn_due T C_operates C_lose, PySem.W.mg_of X G a_due, k_due, b_due⟩
  have M_Shelf_need_power : DMethX l.prog w K mg base C_Shelf "_need_power" 1 (F_Shelf_need_power C_Shelf C_PowerOff) := ⟨f_Shelf_need_power, _, _, ⟨pg_Shelf, hd_Shelf, po_Shelf, sa_Shelf⟩, ⟨a_Shelf_need_power, i_Shelf_need_power, k_Shelf_need_power⟩, ok_Shelf_need_power Fn_Shelf_need_power T, b_Shelf_need_power⟩
  have M_Shelf_fail : DMeth l.prog w K mg base C_Shelf "_fail" 1 (F_Shelf_fail C_Shelf C_PowerOff) := ⟨f_Shelf_fail, _, _, ⟨pg_Shelf, hd_Shelf, po_Shelf, sa_Shelf⟩, ⟨a_Shelf_fail, i_Shelf_fail, k_Shelf_fail⟩, ok_Shelf_fail Fn_Shelf_fail T, b_Shelf_fail⟩
  have M_Shelf_operate : DMethX l.prog w K mg base C_Shelf "_operate" 2 (F_Shelf_operate C_Shelf C_PowerOff) := ⟨f_Shelf_operate, _, _, ⟨pg_Shelf, hd_Shelf, po_Shelf, sa_Shelf⟩, ⟨a_Shelf_operate, i_Shelf_operate, k_Shelf_operate⟩, ok_Shelf_operate Fn_Shelf_operate T M_Shelf_need_power M_Shelf_fail, b_Shelf_operate⟩
  have M_Shelf_append : DMethX l.prog w K mg base C_Shelf "append" 3 (F_Shelf_append C_Shelf C_PowerOff) := ⟨f_Shelf_append, _, _, ⟨pg_Shelf, hd_Shelf, po_Shelf, sa_Shelf⟩, ⟨a_Shelf_append, i_Shelf_append, k_Shelf_append⟩, ok_Shelf_append Fn_Shelf_append T M_Shelf_operate, b_Shelf_append⟩
  have M_Shelf_sync : DMethX l.prog w K mg base C_Shelf "sync" 3 (F_Shelf_sync C_Shelf C_PowerOff) := ⟨f_Shelf_sync, _, _, ⟨pg_Shelf, hd_Shelf, po_Shelf, sa_Shelf⟩, ⟨a_Shelf_sync, i_Shelf_sync, k_Shelf_sync⟩, ok_Shelf_sync Fn_Shelf_sync T M_Shelf_operate, b_Shelf_sync⟩
  have M_Shelf_fail_after : DMethX l.prog w K mg base C_Shelf "fail_after" 2 (F_Shelf_fail_after C_Shelf C_PowerOff) := ⟨f_Shelf_fail_after, _, _, ⟨pg_Shelf, hd_Shelf, po_Shelf, sa_Shelf⟩, ⟨a_Shelf_fail_after, i_Shelf_fail_after, k_Shelf_fail_after⟩, ok_Shelf_fail_after Fn_Shelf_fail_after T M_Shelf_need_power, b_Shelf_fail_after⟩
  have M_Shelf_power : DMeth l.prog w K mg base C_Shelf "power" 2 (F_Shelf_power C_Shelf C_PowerOff) := ⟨f_Shelf_power, _, _, ⟨pg_Shelf, hd_Shelf, po_Shelf, sa_Shelf⟩, ⟨a_Shelf_power, i_Shelf_power, k_Shelf_power⟩, ok_Shelf_power Fn_Shelf_power T M_Shelf_fail, b_Shelf_power⟩
  have C_told : DCal l.prog w K mg base "_law_told" 4 (F_told C_Shelf C_PowerOff) := ⟨f_told, _, _, ok_told Fn_told T M_Shelf_append M_Shelf_sync M_Shelf_fail_after M_Shelf_power, PySem.W.mg_of X G a_told, k_told, b_told⟩
  have M_Shelf_records : DMeth l.prog w K mg base C_Shelf "records" 1 (F_Shelf_records C_Shelf C_PowerOff) := ⟨f_Shelf_records, _, _, ⟨pg_Shelf, hd_Shelf, po_Shelf, sa_Shelf⟩, ⟨a_Shelf_records, i_Shelf_records, k_Shelf_records⟩, ok_Shelf_records Fn_Shelf_records T, b_Shelf_records⟩
  have M_Shelf_pending : DMeth l.prog w K mg base C_Shelf "pending" 1 (F_Shelf_pending C_Shelf C_PowerOff) := ⟨f_Shelf_pending, _, _, ⟨pg_Shelf, hd_Shelf, po_Shelf, sa_Shelf⟩, ⟨a_Shelf_pending, i_Shelf_pending, k_Shelf_pending⟩, ok_Shelf_pending Fn_Shelf_pending T, b_Shelf_pending⟩
  have M_Shelf_is_on : DMeth l.prog w K mg base C_Shelf "is_on" 1 (F_Shelf_is_on C_Shelf C_PowerOff) := ⟨f_Shelf_is_on, _, _, ⟨pg_Shelf, hd_Shelf, po_Shelf, sa_Shelf⟩, ⟨a_Shelf_is_on, i_Shelf_is_on, k_Shelf_is_on⟩, ok_Shelf_is_on Fn_Shelf_is_on T, b_Shelf_is_on⟩
  have M_Shelf_losses : DMeth l.prog w K mg base C_Shelf "losses" 1 (F_Shelf_losses C_Shelf C_PowerOff) := ⟨f_Shelf_losses, _, _, ⟨pg_Shelf, hd_Shelf, po_Shelf, sa_Shelf⟩, ⟨a_Shelf_losses, i_Shelf_losses, k_Shelf_losses⟩, ok_Shelf_losses Fn_Shelf_losses T, b_Shelf_losses⟩
  have C_right : DCal l.prog w K mg base "_law_right" 2 (F_right C_Shelf C_PowerOff) := ⟨f_right, _, _, ok_right Fn_right T M_Shelf_records M_Shelf_pending M_Shelf_is_on M_Shelf_losses, PySem.W.mg_of X G a_right, k_right, b_right⟩
  have K_Shelf : DMk l.prog w K mg base "Shelf" C_Shelf 1 (F_Shelf_init C_Shelf C_PowerOff) := ⟨f_Shelf_init, _, _, ⟨mk_Shelf, a_Shelf_init, i_Shelf_init, kc_Shelf⟩, PySem.W.mg_of X G ac_Shelf, ok_Shelf_init Fn_Shelf_init T, b_Shelf_init⟩
  exact law_of (ok_law Fn_law T C_state C_pick C_due C_told C_right K_Shelf)
theorem walk {l : PySem.W.OpenLaw} {q : Program} {loose : List Str} {XP : (Str → Option Value) → Heap → Prop} {YP : World → Heap → Prop} {d : DefRec} {K : Params → PySem.W.Frag} (hn : l.most = some 63) (hdf : d.params.defaults = [])
    (hY : ∀ (w : World) (h : Heap), YP w h → (K w.params).In h)
    (F : ∀ (w : World) (mg : Str → Option Value) (fa : Addr) (h : Heap), (K w.params).In h → h.Ns mainGlobals mg → mg d.name = some (.ref fa) →
      ∃ fd : FuncData, (∀ (s : Shared) (u : Value), BindsTo s fd ⟨[u], []⟩ [("script", u)]) ∧ ∀ base : Heap, (K w.params).In base → base.Ns mainGlobals mg → Gk l.prog w (K w.params) mg base 5 fa fd ["script"] (spLawD (K w.params))) :
    PySem.W.WalkO q loose XP YP l.row.toRowW d [] (fun f vs => PySem.call f vs) :=
  walkG (n := 63) (k := 5) (x := "script") (sp := fun w => spLawD (K w.params)) hn (by decide) hdf ⟨rfl, by decide, by decide⟩ hY F (fun _ _ a ns hl _ hS => ⟨a, ns, rfl, hS, hl, fun _ => rfl⟩)
end Vk
open PySem PySem.W PyProof.Rows
set_option maxRecDepth 100000 in
set_option maxHeartbeats 0 in
theorem PySem.Challenge.cw_trothbase_k40_shelves_keep_a_prefix_holds : PySem.Challenge.rw_trothbase_k40_shelves_keep_a_prefix.Holds := by
  w_on; o_law; k_head; (case hw => w_witness2)
  k_fill
  refine Vk.walk (l := PySem.Challenge.rw_trothbase_k40_shelves_keep_a_prefix) rfl rfl (fun w h Y => PySem.W.kIn_of Y) ?F
  case F =>
    intro w mg fa h KX G hmg
    refine' Vk.all_mk KX G hmg ?a_state ?l_state ?c_state ?k_state ?a_pick ?l_pick ?c_pick ?k_pick ?a_lose ?l_lose ?c_lose ?k_lose ?a_operates ?l_operates ?c_operates ?k_operates ?a_due ?l_due ?c_due ?k_due ?a_told ?l_told ?c_told ?k_told ?a_right ?l_right ?c_right ?k_right ?a_law ?l_law ?c_law ?k_law ?a_Shelf_append ?i_Shelf_append ?l_Shelf_append ?c_Shelf_append ?k_Shelf_append ?a_Shelf_operate ?i_Shelf_operate ?l_Shelf_operate ?c_Shelf_operate ?k_Shelf_operate ?a_Shelf_need_power ?i_Shelf_need_power ?l_Shelf_need_power ?c_Shelf_need_power ?k_Shelf_need_power ?a_Shelf_fail ?i_Shelf_fail ?l_Shelf_fail ?c_Shelf_fail ?k_Shelf_fail ?a_Shelf_sync ?i_Shelf_sync ?l_Shelf_sync ?c_Shelf_sync ?k_Shelf_sync ?a_Shelf_fail_after ?i_Shelf_fail_after ?l_Shelf_fail_after ?c_Shelf_fail_after ?k_Shelf_fail_after ?a_Shelf_power ?i_Shelf_power ?l_Shelf_power ?c_Shelf_power ?k_Shelf_power ?a_Shelf_records ?i_Shelf_records ?l_Shelf_records ?c_Shelf_records ?k_Shelf_records ?a_Shelf_pending ?i_Shelf_pending ?l_Shelf_pending ?c_Shelf_pending ?k_Shelf_pending ?a_Shelf_is_on ?i_Shelf_is_on ?l_Shelf_is_on ?c_Shelf_is_on ?k_Shelf_is_on ?a_Shelf_losses ?i_Shelf_losses ?l_Shelf_losses ?c_Shelf_losses ?k_Shelf_losses ?a_Shelf_init ?i_Shelf_init ?l_Shelf_init ?c_Shelf_init ?k_Shelf_init ?ac_Shelf ?pg_Shelf ?hd_Shelf ?po_Shelf ?sa_Shelf ?mk_Shelf ?kc_Shelf ?ac_TrothError ?ac_InvalidArgument ?ac_PowerOff ?ac_HouseClosed ?ex_TrothError ?kc_TrothError ?sb_TrothError ?ty_TrothError ?ex_InvalidArgument ?kc_InvalidArgument ?sb_InvalidArgument ?ty_InvalidArgument ?ex_PowerOff ?kc_PowerOff ?sb_PowerOff ?ty_PowerOff ?ex_HouseClosed ?kc_HouseClosed ?sb_HouseClosed ?ty_HouseClosed ?hd_TrothError ?hd_InvalidArgument ?hd_PowerOff ?hd_HouseClosed ?su_PowerOff_PowerOff ?su_PowerOff_TrothError ?su_TrothError_PowerOff ?su_TrothError_TrothError ?su_PowerOff_InvalidArgument ?su_PowerOff_HouseClosed ?x1 ?x2 ?x4 ?x5 ?x6 ?x7 ?x8 ?nf_f_lasting ?nf_f_waiting ?nf_f_on ?nf_f_losses ?nf_f_left ?z_int ?z_list ?z_isinstance ?z_len ?z_max ?z_min ?z_range ?z_repr ?z_ValueError
    (case ac_Shelf => k_is)
    (case ac_TrothError => k_is)
    (case ac_InvalidArgument => k_is)
    (case ac_PowerOff => k_is)
    (case ac_HouseClosed => k_is)
    (case a_state => k_is)
    (case l_state => k_is)
    (case c_state => k_is)
    (case k_state => k_is)
    (case a_pick => k_is)
    (case l_pick => k_is)
    (case c_pick => k_is)
    (case k_pick => k_is)
    (case a_lose => k_is)
    (case l_lose => k_is)
    (case c_lose => k_is)
    (case k_lose => k_is)
    (case a_operates => k_is)
    (case l_operates => k_is)
    (case c_operates => k_is)
    (case k_operates => k_is)
    (case a_due => k_is)
    (case l_due => k_is)
    (case c_due => k_is)
    (case k_due => k_is)
    (case a_told => k_is)
    (case l_told => k_is)
    (case c_told => k_is)
    (case k_told => k_is)
    (case a_right => k_is)
    (case l_right => k_is)
    (case c_right => k_is)
    (case k_right => k_is)
    (case a_law => k_is)
    (case l_law => k_is)
    (case c_law => k_is)
    (case k_law => k_is)
    (case a_Shelf_append => k_is)
    (case i_Shelf_append => k_is)
    (case l_Shelf_append => k_is)
    (case c_Shelf_append => k_is)
    (case k_Shelf_append => k_is)
    (case a_Shelf_operate => k_is)
    (case i_Shelf_operate => k_is)
    (case l_Shelf_operate => k_is)
    (case c_Shelf_operate => k_is)
    (case k_Shelf_operate => k_is)
    (case a_Shelf_need_power => k_is)
    (case i_Shelf_need_power => k_is)
    (case l_Shelf_need_power => k_is)
    (case c_Shelf_need_power => k_is)
    (case k_Shelf_need_power => k_is)
    (case a_Shelf_fail => k_is)
    (case i_Shelf_fail => k_is)
    (case l_Shelf_fail => k_is)
    (case c_Shelf_fail => k_is)
    (case k_Shelf_fail => k_is)
    (case a_Shelf_sync => k_is)
    (case i_Shelf_sync => k_is)
    (case l_Shelf_sync => k_is)
    (case c_Shelf_sync => k_is)
    (case k_Shelf_sync => k_is)
    (case a_Shelf_fail_after => k_is)
    (case i_Shelf_fail_after => k_is)
    (case l_Shelf_fail_after => k_is)
    (case c_Shelf_fail_after => k_is)
    (case k_Shelf_fail_after => k_is)
    (case a_Shelf_power => k_is)
    (case i_Shelf_power => k_is)
    (case l_Shelf_power => k_is)
    (case c_Shelf_power => k_is)
    (case k_Shelf_power => k_is)
    (case a_Shelf_records => k_is)
    (case i_Shelf_records => k_is)
    (case l_Shelf_records => k_is)
    (case c_Shelf_records => k_is)
    (case k_Shelf_records => k_is)
    (case a_Shelf_pending => k_is)
    (case i_Shelf_pending => k_is)
    (case l_Shelf_pending => k_is)
    (case c_Shelf_pending => k_is)
    (case k_Shelf_pending => k_is)
    (case a_Shelf_is_on => k_is)
    (case i_Shelf_is_on => k_is)
    (case l_Shelf_is_on => k_is)
    (case c_Shelf_is_on => k_is)
    (case k_Shelf_is_on => k_is)
    (case a_Shelf_losses => k_is)
    (case i_Shelf_losses => k_is)
    (case l_Shelf_losses => k_is)
    (case c_Shelf_losses => k_is)
    (case k_Shelf_losses => k_is)
    (case a_Shelf_init => k_is)
    (case i_Shelf_init => k_is)
    (case l_Shelf_init => k_is)
    (case c_Shelf_init => k_is)
    (case k_Shelf_init => k_is)
    (case pg_Shelf => k_is)
    (case hd_Shelf => k_is)
    (case po_Shelf => k_is)
    (case sa_Shelf => k_is)
    (case mk_Shelf => k_is)
    (case kc_Shelf => k_is)
    (case ex_TrothError => k_exc)
    (case kc_TrothError => k_is)
    (case sb_TrothError => k_is)
    (case ty_TrothError => k_is)
    (case ex_InvalidArgument => k_exc)
    (case kc_InvalidArgument => k_is)
    (case sb_InvalidArgument => k_is)
    (case ty_InvalidArgument => k_is)
    (case ex_PowerOff => k_exc)
    (case kc_PowerOff => k_is)
    (case sb_PowerOff => k_is)
    (case ty_PowerOff => k_is)
    (case ex_HouseClosed => k_exc)
    (case kc_HouseClosed => k_is)
    (case sb_HouseClosed => k_is)
    (case ty_HouseClosed => k_is)
    (case hd_TrothError => k_is)
    (case hd_InvalidArgument => k_is)
    (case hd_PowerOff => k_is)
    (case hd_HouseClosed => k_is)
    (case su_PowerOff_PowerOff => k_is)
    (case su_PowerOff_TrothError => k_is)
    (case su_TrothError_PowerOff => k_is)
    (case su_TrothError_TrothError => k_is)
    (case su_PowerOff_InvalidArgument => k_is)
    (case su_PowerOff_HouseClosed => k_is)
    (case x1 => k_is)
    (case x2 => k_is)
    (case x4 => k_is)
    (case x5 => k_is)
    (case x6 => k_is)
    (case x7 => k_is)
    (case x8 => k_is)
    (case nf_f_lasting => k_is)
    (case nf_f_waiting => k_is)
    (case nf_f_on => k_is)
    (case nf_f_losses => k_is)
    (case nf_f_left => k_is)
    (case z_int => k_is)
    (case z_list => k_is)
    (case z_isinstance => k_is)
    (case z_len => k_is)
    (case z_max => k_is)
    (case z_min => k_is)
    (case z_range => k_is)
    (case z_repr => k_is)
    (case z_ValueError => k_is)
#print axioms PySem.Challenge.cw_trothbase_k40_shelves_keep_a_prefix_holds
