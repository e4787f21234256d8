import PyProof.Rows.All
import Wide.All
import OpenK.AllK
import Wide.FinOn
import PyProof.ReprReads
import PyProof.Rows.StrIntSpec
import HandS.Base
import HandS.Call
import HandS.List
import HandS.Dict
import HandS.Ends
import HandS.Words
import HandS.WordsList
import HandS.WordsDict
import PyProof.ReprRoads
import HandS.IsInst
import HandS.Comp
import HandS.More
import HandS.Codes
import PyProof.RulesMatch
import PyProof.RulesMatchSeq
import PyProof.Rows.MatchSeqLen
import PyProof.Rows.TupIter
import HandS.TupAny
import HandS.TupMul
import HandS.Text
import HandS.Iter
import HandS.Deep
import HandS.TupLe
import PyProof.P3In
import PyProof.StrOps2
import PySem.Challenge.RW_trothbase_k07_forms_of_pages
set_option Elab.async false
set_option maxRecDepth 100000
set_option maxHeartbeats 4000000
namespace Vk
open PySem
/-! # The text of a plain value tells the value: no two have one text -/
/-! ## integers -/
def intL (i : Int) : List Nat := (Str.ofString (toString i)).cps.toList
theorem ofString_codes (x : String) : (Str.ofString x).cps.toList = x.toList.map Char.toNat := by
  simp [Str.ofString_eq_toList]
theorem codes_inj : ∀ {a b : List Char}, a.map Char.toNat = b.map Char.toNat → a = b
  | [], [], _ => rfl
  | [], _ :: _, h => by cases h
  | _ :: _, [], h => by cases h
  | x :: a, y :: b, h => by
    injection h with h1 h2
    have e : x = y := Char.ext (UInt32.toNat_inj.mp h1)
    rw [e, codes_inj h2]
theorem intL_inj {i j : Int} (h : intL i = intL j) : i = j := by
  unfold intL at h
  rw [ofString_codes, ofString_codes] at h
  have e := codes_inj h
  have e2 : toString i = toString j := String.ext e
  exact Int.repr_inj.mp e2
theorem digits_are (m : Nat) : ∀ c ∈ (Nat.toDigits 10 m).map Char.toNat, 48 ≤ c ∧ c ≤ 57 := by
  intro c hc
  obtain ⟨d, hd, rfl⟩ := List.mem_map.mp hc
  have z := Nat.isDigit_of_mem_toDigits (b := 10) (by decide) (by decide) hd
  simp only [Char.isDigit, Bool.and_eq_true, decide_eq_true_eq, UInt32.le_iff_toNat_le] at z
  exact z
theorem intL_mem (i : Int) : ∀ c ∈ intL i, c = 45 ∨ (48 ≤ c ∧ c ≤ 57) := by
  intro c hc
  cases i with
  | ofNat m =>
    unfold intL at hc
    rw [PyProof.Rows.text_ofNat] at hc
    exact .inr (digits_are m c (by simpa using hc))
  | negSucc m =>
    have e : intL (Int.negSucc m) = 45 :: (Nat.toDigits 10 (m + 1)).map Char.toNat := by
      unfold intL
      rw [ofString_codes]
      show ("-" ++ Nat.repr (m + 1)).toList.map Char.toNat = _
      rw [String.toList_append, List.map_append]
      show [45] ++ (Nat.repr (m + 1)).toList.map Char.toNat = _
      have e2 : (Nat.repr (m + 1)).toList = Nat.toDigits 10 (m + 1) := by
        unfold Nat.repr
        exact String.toList_ofList
      rw [e2]
      rfl
    rw [e] at hc
    rcases List.mem_cons.mp hc with h | h
    · exact .inl h
    · exact .inr (digits_are _ c h)
theorem intL_ne (i : Int) : intL i ≠ [] := by
  intro h
  have e : toString i = "" := by
    unfold intL at h
    rw [ofString_codes] at h
    exact String.ext (List.map_eq_nil_iff.mp h)
  cases i with
  | ofNat m =>
    have len := Nat.length_toDigits_pos (b := 10) (n := m)
    have e2 : Nat.repr m = "" := e
    have e3 : (Nat.repr m).toList = Nat.toDigits 10 m := by
      unfold Nat.repr
      exact String.toList_ofList
    rw [e2] at e3
    rw [← e3] at len
    exact absurd len (by decide)
  | negSucc m =>
    have e2 : "-" ++ Nat.repr (m + 1) = "" := e
    have e3 := congrArg String.toList e2
    rw [String.toList_append] at e3
    cases e3
/-! ## texts -/
/-- signs from the space to ~ -/
def okS (x : Str) : Bool := x.cps.all fun c => decide (32 ≤ c) && decide (c ≤ 126)
theorem okS_mem {x : Str} (h : okS x = true) : ∀ c ∈ x.cps.toList, 32 ≤ c ∧ c ≤ 126 := by
  intro c hc
  unfold okS at h
  rw [Array.all_eq_true'] at h
  have z := h c (Array.mem_toList_iff.mp hc)
  simpa using z
theorem print_ascii : ∀ c : Nat, c < 127 → 32 ≤ c → Unicode.isPrintable c = true := by
  have z : (List.range 127).all (fun c => !decide (32 ≤ c) || Unicode.isPrintable c) = true := by decide +kernel
  intro c h1 h2
  have y := List.all_eq_true.mp z c (List.mem_range.mpr h1)
  simpa [h2] using y
theorem repr_ascii {q c : Nat} (h1 : 32 ≤ c) (h2 : c ≤ 126) : Builtin.Str.reprChar q c = if c = q ∨ c = 92 then [92, c] else [c] := by
  unfold Builtin.Str.reprChar
  by_cases h : c = q ∨ c = 92
  · rw [if_pos h]
    have e : (c == q || c == 92) = true := by
      rcases h with h | h <;> simp [h]
    simp only [e, if_true]
  · rw [if_neg h]
    have e : (c == q || c == 92) = false := by
      simp only [Bool.or_eq_false_iff, beq_eq_false_iff_ne]
      exact ⟨fun z => h (.inl z), fun z => h (.inr z)⟩
    have e1 : (c == 10) = false := beq_eq_false_iff_ne.mpr (by omega)
    have e2 : (c == 13) = false := beq_eq_false_iff_ne.mpr (by omega)
    have e3 : (c == 9) = false := beq_eq_false_iff_ne.mpr (by omega)
    simp [e, e1, e2, e3, print_ascii c (by omega) h1]
def body (q : Nat) : List Nat → List Nat
  | [] => []
  | c :: r => (if c = q ∨ c = 92 then [92, c] else [c]) ++ body q r
theorem body_inj (q : Nat) (hq : q ≠ 92) : ∀ (a b r1 r2 : List Nat), body q a ++ q :: r1 = body q b ++ q :: r2 → a = b ∧ r1 = r2
  | [], [], r1, r2, h => ⟨rfl, by injection h⟩
  | [], c :: b, r1, r2, h => by
    exfalso
    simp only [body] at h
    split at h
    · injection h with h1 _
      exact hq h1
    · rename_i n
      injection h with h1 _
      exact n (.inl h1.symm)
  | c :: a, [], r1, r2, h => by
    exfalso
    simp only [body] at h
    split at h
    · injection h with h1 _
      exact hq h1.symm
    · rename_i n
      injection h with h1 _
      exact n (.inl h1)
  | c :: a, d :: b, r1, r2, h => by
    simp only [body] at h
    split at h <;> split at h
    · simp only [List.cons_append, List.nil_append, List.append_assoc] at h
      injection h with _ h
      injection h with h1 h
      obtain ⟨e1, e2⟩ := body_inj q hq a b r1 r2 h
      exact ⟨by rw [h1, e1], e2⟩
    · rename_i n
      simp only [List.cons_append, List.nil_append] at h
      injection h with h1 _
      exact absurd (.inr h1.symm) n
    · rename_i n _
      simp only [List.cons_append, List.nil_append] at h
      injection h with h1 _
      exact absurd (.inr h1) n
    · simp only [List.cons_append, List.nil_append, List.append_assoc] at h
      injection h with h1 h
      obtain ⟨e1, e2⟩ := body_inj q hq a b r1 r2 h
      exact ⟨by rw [h1, e1], e2⟩
def strL (x : Str) : List Nat := (reprText x).cps.toList
theorem foldl_codes (q : Nat) : ∀ (l : List Nat) (acc : Array Nat), (∀ c ∈ l, 32 ≤ c ∧ c ≤ 126) → (l.foldl (fun out c => out ++ (Builtin.Str.reprChar q c).toArray) acc).toList = acc.toList ++ body q l
  | [], acc, _ => by simp [body]
  | c :: l, acc, h => by
    obtain ⟨h1, h2⟩ := h c List.mem_cons_self
    rw [List.foldl_cons, foldl_codes q l _ (fun d hd => h d (List.mem_cons_of_mem _ hd)), repr_ascii h1 h2]
    simp [body]
theorem quote_is (x : Str) : reprQuote x = 34 ∨ reprQuote x = 39 := by
  unfold reprQuote
  split
  · exact .inl rfl
  · exact .inr rfl
theorem strL_eq {x : Str} (h : okS x = true) : strL x = reprQuote x :: (body (reprQuote x) x.cps.toList ++ [reprQuote x]) := by
  unfold strL reprText
  rw [Array.toList_push, ← Array.foldl_toList, foldl_codes _ _ _ (okS_mem h)]
  simp
theorem strL_inj {x y : Str} (hx : okS x = true) (hy : okS y = true) {r1 r2 : List Nat} (h : strL x ++ r1 = strL y ++ r2) : x = y ∧ r1 = r2 := by
  rw [strL_eq hx, strL_eq hy] at h
  simp only [List.cons_append, List.append_assoc, List.nil_append] at h
  injection h with hq h
  rw [← hq] at h
  obtain ⟨e1, e2⟩ := body_inj (reprQuote x) (by rcases quote_is x with e | e <;> rw [e] <;> decide) _ _ _ _ h
  refine ⟨?_, e2⟩
  cases x
  cases y
  congr
  exact Array.toList_inj.mp e1
end Vk
namespace Vk
open PySem
/-! ## whole values -/
mutual
/-- plain, of signs that are written as they are, of integers that are not too long -/
def okD : PyData → Bool
  | .none => true
  | .bool _ => true
  | .int i => decide (i.natAbs.log2 < 1920)
  | .str x => okS x
  | .tuple xs => okDs xs
  | .list _ => false
  | .dict _ => false
def okDs : List PyData → Bool
  | [] => true
  | x :: xs => okD x && okDs xs
end
def joinL : List (List Nat) → List Nat
  | [] => []
  | [x] => x
  | x :: y :: r => x ++ (44 :: 32 :: joinL (y :: r))
def closeL (n : Nat) : List Nat := if n = 1 then [44, 41] else [41]
mutual
def encD : PyData → List Nat
  | .none => [78, 111, 110, 101]
  | .bool true => [84, 114, 117, 101]
  | .bool false => [70, 97, 108, 115, 101]
  | .int i => intL i
  | .str x => strL x
  | .tuple xs => 40 :: (joinL (encDs xs) ++ closeL xs.length)
  | .list _ => []
  | .dict _ => []
def encDs : List PyData → List (List Nat)
  | [] => []
  | x :: xs => encD x :: encDs xs
end
theorem app_codes (a b : Str) : (a ++ b).cps.toList = a.cps.toList ++ b.cps.toList := by
  show (a.cps ++ b.cps).toList = _
  simp
theorem join_codes (f : PyData → List Nat) : ∀ ts : List Str, (Str.join ", " ts).cps.toList = joinL (ts.map fun t => t.cps.toList)
  | [] => rfl
  | [x] => rfl
  | x :: y :: r => by
    have ih := join_codes f (y :: r)
    show (x ++ ", " ++ Str.join ", " (y :: r)).cps.toList = _
    rw [app_codes, app_codes, ih, ofString_codes]
    simp [joinL]
theorem encDs_len : ∀ xs : List PyData, (encDs xs).length = xs.length
  | [] => rfl
  | x :: xs => by simp [encDs, encDs_len xs]
theorem shownAll_len : ∀ xs : List PyData, (PyData.shownAll xs).length = xs.length
  | [] => rfl
  | x :: xs => by simp [PyData.shownAll, shownAll_len xs]
mutual
theorem shown_codes : ∀ d : PyData, okD d = true → (PyData.shown d).cps.toList = encD d
  | .none, _ => by rw [PyData.shown, encD]; decide +kernel
  | .bool true, _ => by rw [PyData.shown, encD]; decide +kernel
  | .bool false, _ => by rw [PyData.shown, encD]; decide +kernel
  | .int i, _ => by rw [PyData.shown, encD]; rfl
  | .str x, _ => by rw [PyData.shown, encD]; rfl
  | .tuple xs, h => by
    have h' : okDs xs = true := by simpa [okD] using h
    rw [PyData.shown, encD]
    unfold tupleText
    rw [app_codes, app_codes, join_codes encD, shown_codesAll xs h', shownAll_len]
    by_cases e : xs.length = 1
    · simp only [e, closeL, if_true, beq_self_eq_true]
      rw [ofString_codes, ofString_codes]
      simp
    · have e2 : (xs.length == 1) = false := beq_eq_false_iff_ne.mpr e
      simp only [e, e2, closeL, if_false, Bool.false_eq_true]
      rw [ofString_codes, ofString_codes]
      simp
  | .list _, h => by simp [okD] at h
  | .dict _, h => by simp [okD] at h
theorem shown_codesAll : ∀ xs : List PyData, okDs xs = true → (PyData.shownAll xs).map (fun t => t.cps.toList) = encDs xs
  | [], _ => rfl
  | x :: xs, h => by
    have h' : okD x = true ∧ okDs xs = true := by simpa [okDs] using h
    simp only [PyData.shownAll, List.map_cons, encDs, shown_codes x h'.1, shown_codesAll xs h'.2]
end
/-- the kind of a value, by its first sign -/
def kindOf (c : Nat) : Nat := if c = 78 then 0 else if c = 84 ∨ c = 70 then 1 else if c = 34 ∨ c = 39 then 3 else if c = 40 then 4 else 2
def kindD : PyData → Nat
  | .none => 0
  | .bool _ => 1
  | .int _ => 2
  | .str _ => 3
  | .tuple _ => 4
  | .list _ => 5
  | .dict _ => 5
theorem first_sign : ∀ d : PyData, okD d = true → ∃ c t, encD d = c :: t ∧ kindOf c = kindD d ∧ c ≠ 41 ∧ c ≠ 44
  | .none, _ => ⟨78, [111, 110, 101], rfl, rfl, by decide, by decide⟩
  | .bool true, _ => ⟨84, _, rfl, rfl, by decide, by decide⟩
  | .bool false, _ => ⟨70, _, rfl, rfl, by decide, by decide⟩
  | .int i, _ => by
    have m := intL_mem i
    cases e : intL i with
    | nil => exact absurd e (intL_ne i)
    | cons c t =>
      have z := m c (by rw [e]; exact List.mem_cons_self)
      refine ⟨c, t, by rw [encD]; exact e, ?_, by omega, by omega⟩
      show kindOf c = 2
      unfold kindOf
      rw [if_neg (by omega), if_neg (by omega), if_neg (by omega), if_neg (by omega)]
  | .str x, h => by
    have e := strL_eq (x := x) h
    refine ⟨reprQuote x, _, by rw [encD]; exact e, ?_, ?_, ?_⟩
    · rcases quote_is x with z | z <;> rw [z] <;> rfl
    · rcases quote_is x with z | z <;> rw [z] <;> decide
    · rcases quote_is x with z | z <;> rw [z] <;> decide
  | .tuple xs, _ => ⟨40, _, by rw [encD], rfl, by decide, by decide⟩
  | .list _, h => by simp [okD] at h
  | .dict _, h => by simp [okD] at h
def Stop (r : List Nat) : Prop := r = [] ∨ ∃ c t, r = c :: t ∧ (c = 41 ∨ c = 44)
/-- two rows of signs, each behind it a stop: cut at the first stop -/
theorem cut_stop : ∀ (a b r1 r2 : List Nat), (∀ c ∈ a, c ≠ 41 ∧ c ≠ 44) → (∀ c ∈ b, c ≠ 41 ∧ c ≠ 44) → Stop r1 → Stop r2 → a ++ r1 = b ++ r2 → a = b ∧ r1 = r2
  | [], [], _, _, _, _, _, _, h => ⟨rfl, h⟩
  | [], d :: b, r1, r2, _, hb, s1, _, h => by
    exfalso
    have z := hb d List.mem_cons_self
    rcases s1 with rfl | ⟨c, t, rfl, hc⟩
    · cases h
    · injection h with h1 _
      omega
  | c :: a, [], r1, r2, ha, _, _, s2, h => by
    exfalso
    have z := ha c List.mem_cons_self
    rcases s2 with rfl | ⟨d, t, rfl, hc⟩
    · cases h
    · injection h with h1 _
      omega
  | c :: a, d :: b, r1, r2, ha, hb, s1, s2, h => by
    injection h with h1 h
    obtain ⟨e1, e2⟩ := cut_stop a b r1 r2 (fun x hx => ha x (List.mem_cons_of_mem _ hx)) (fun x hx => hb x (List.mem_cons_of_mem _ hx)) s1 s2 h
    exact ⟨by rw [h1, e1], e2⟩
theorem close_stop (n : Nat) (r : List Nat) : Stop (closeL n ++ r) := by
  unfold closeL
  split
  · exact .inr ⟨44, _, rfl, .inr rfl⟩
  · exact .inr ⟨41, _, rfl, .inl rfl⟩
theorem kind_same {d e : PyData} (hd : okD d = true) (he : okD e = true) {r1 r2 : List Nat} (h : encD d ++ r1 = encD e ++ r2) : kindD d = kindD e := by
  obtain ⟨c, t, e1, k1, _⟩ := first_sign d hd
  obtain ⟨c', t', e2, k2, _⟩ := first_sign e he
  rw [e1, e2] at h
  injection h with h1 _
  rw [← k1, ← k2, h1]
mutual
theorem enc_inj : ∀ (d e : PyData) (r1 r2 : List Nat), okD d = true → okD e = true → Stop r1 → Stop r2 → encD d ++ r1 = encD e ++ r2 → d = e ∧ r1 = r2
  | .none, e, r1, r2, hd, he, s1, s2, h => by
    have k := kind_same hd he h
    cases e with
    | none => exact ⟨rfl, List.append_cancel_left h⟩
    | _ => simp [kindD] at k
  | .bool b, e, r1, r2, hd, he, s1, s2, h => by
    have k := kind_same hd he h
    cases e with
    | bool b' =>
      cases b <;> cases b'
      · exact ⟨rfl, List.append_cancel_left h⟩
      · simp [encD] at h
      · simp [encD] at h
      · exact ⟨rfl, List.append_cancel_left h⟩
    | _ => simp [kindD] at k
  | .int i, e, r1, r2, hd, he, s1, s2, h => by
    have k := kind_same hd he h
    cases e with
    | int j =>
      rw [encD, encD] at h
      obtain ⟨e1, e2⟩ := cut_stop _ _ _ _ (fun c hc => by have z := intL_mem i c hc; omega) (fun c hc => by have z := intL_mem j c hc; omega) s1 s2 h
      exact ⟨by rw [intL_inj e1], e2⟩
    | _ => simp [kindD] at k
  | .str x, e, r1, r2, hd, he, s1, s2, h => by
    have k := kind_same hd he h
    cases e with
    | str y =>
      rw [encD, encD] at h
      obtain ⟨e1, e2⟩ := strL_inj (x := x) (y := y) (by simpa [okD] using hd) (by simpa [okD] using he) h
      exact ⟨by rw [e1], e2⟩
    | _ => simp [kindD] at k
  | .tuple xs, e, r1, r2, hd, he, s1, s2, h => by
    have k := kind_same hd he h
    cases e with
    | tuple ys =>
      rw [encD, encD] at h
      simp only [List.cons_append, List.append_assoc] at h
      injection h with _ h
      have hx : okDs xs = true := by simpa [okD] using hd
      have hy : okDs ys = true := by simpa [okD] using he
      cases xs with
      | nil =>
        cases ys with
        | nil => exact ⟨rfl, List.append_cancel_left h⟩
        | cons y ys =>
          exfalso
          have hy' : okD y = true := by simp [okDs] at hy; exact hy.1
          obtain ⟨c, t, e1, _, n1, n2⟩ := first_sign y hy'
          have e2 : ∃ t', joinL (encDs (y :: ys)) = c :: t' := by
            cases ys with
            | nil => exact ⟨t, e1⟩
            | cons z zs => exact ⟨_, by simp only [encDs, joinL, e1]; rfl⟩
          obtain ⟨t', e2⟩ := e2
          rw [e2] at h
          injection h with h1 _
          exact n1 h1.symm
      | cons x xs =>
        cases ys with
        | nil =>
          exfalso
          have hx' : okD x = true := by simp [okDs] at hx; exact hx.1
          obtain ⟨c, t, e1, _, n1, n2⟩ := first_sign x hx'
          have e2 : ∃ t', joinL (encDs (x :: xs)) = c :: t' := by
            cases xs with
            | nil => exact ⟨t, e1⟩
            | cons z zs => exact ⟨_, by simp only [encDs, joinL, e1]; rfl⟩
          obtain ⟨t', e2⟩ := e2
          rw [e2] at h
          injection h with h1 _
          exact n1 h1
        | cons y ys =>
          obtain ⟨e1, e2⟩ := enc_injs (x :: xs) y ys _ _ r1 r2 hx hy h
          exact ⟨by rw [e1], e2⟩
    | _ => simp [kindD] at k
  | .list _, _, _, _, h, _, _, _, _ => by simp [okD] at h
  | .dict _, _, _, _, h, _, _, _, _ => by simp [okD] at h
theorem enc_injs : ∀ (l : List PyData) (y : PyData) (ys : List PyData) (n m : Nat) (r1 r2 : List Nat), okDs l = true → okDs (y :: ys) = true →
    joinL (encDs l) ++ (closeL n ++ r1) = joinL (encDs (y :: ys)) ++ (closeL m ++ r2) → l = y :: ys ∧ r1 = r2
  | [], y, ys, n, m, r1, r2, _, hy, h => by
    exfalso
    have hy' : okD y = true := by simp [okDs] at hy; exact hy.1
    obtain ⟨c, t, e1, _, n1, n2⟩ := first_sign y hy'
    have e2 : ∃ t', joinL (encDs (y :: ys)) = c :: t' := by
      cases ys with
      | nil => exact ⟨t, e1⟩
      | cons z zs => exact ⟨_, by simp only [encDs, joinL, e1]; rfl⟩
    obtain ⟨t', e2⟩ := e2
    rw [e2] at h
    simp only [encDs, joinL, List.nil_append] at h
    unfold closeL at h
    split at h <;> (injection h with h1 _; omega)
  | [x], y, ys, n, m, r1, r2, hx, hy, h => by
    have hx' : okD x = true := by simp [okDs] at hx; exact hx
    have hy' : okD y = true := by simp [okDs] at hy; exact hy.1
    cases ys with
    | nil =>
      simp only [encDs, joinL] at h
      obtain ⟨e1, e2⟩ := enc_inj x y _ _ hx' hy' (close_stop n r1) (close_stop m r2) h
      refine ⟨by rw [e1], ?_⟩
      unfold closeL at e2
      split at e2 <;> split at e2
      · simpa using e2
      · injection e2 with z _; cases z
      · injection e2 with z _; cases z
      · simpa using e2
    | cons z zs =>
      exfalso
      simp only [encDs, joinL, List.append_assoc, List.cons_append] at h
      obtain ⟨e1, e2⟩ := enc_inj x y _ _ hx' hy' (close_stop n r1) (.inr ⟨44, _, rfl, .inr rfl⟩) h
      unfold closeL at e2
      split at e2
      · injection e2 with _ z
        injection z with z _
        cases z
      · injection e2 with z _
        cases z
  | x :: x2 :: l, y, ys, n, m, r1, r2, hx, hy, h => by
    have hx' : okD x = true ∧ okDs (x2 :: l) = true := by
      have z : (okD x && okDs (x2 :: l)) = true := by rw [okDs] at hx; exact hx
      exact Bool.and_eq_true_iff.mp z
    have hy' : okD y = true := by simp [okDs] at hy; exact hy.1
    cases ys with
    | nil =>
      exfalso
      simp only [encDs, joinL, List.append_assoc, List.cons_append] at h
      obtain ⟨e1, e2⟩ := enc_inj x y _ _ hx'.1 hy' (.inr ⟨44, _, rfl, .inr rfl⟩) (close_stop m r2) h
      rcases (show closeL m = [44, 41] ∨ closeL m = [41] by unfold closeL; split <;> simp) with cm | cm
      · rw [cm] at e2
        injection e2 with _ z
        injection z with z _
        cases z
      · rw [cm] at e2
        injection e2 with z _
        cases z
    | cons z zs =>
      have hz : okDs (z :: zs) = true := by
        have q : (okD y && okDs (z :: zs)) = true := by rw [okDs] at hy; exact hy
        exact (Bool.and_eq_true_iff.mp q).2
      have h2 : encD x ++ (44 :: 32 :: (joinL (encDs (x2 :: l)) ++ (closeL n ++ r1))) = encD y ++ (44 :: 32 :: (joinL (encDs (z :: zs)) ++ (closeL m ++ r2))) := by
        simpa only [encDs, joinL, List.append_assoc, List.cons_append] using h
      obtain ⟨e1, e2⟩ := enc_inj x y _ _ hx'.1 hy' (.inr ⟨44, _, rfl, .inr rfl⟩) (.inr ⟨44, _, rfl, .inr rfl⟩) h2
      injection e2 with _ e2
      injection e2 with _ e2
      obtain ⟨e3, e4⟩ := enc_injs (x2 :: l) z zs n m r1 r2 hx'.2 hz e2
      exact ⟨by rw [e1, e3], e4⟩
end
theorem shown_inj {d e : PyData} (hd : okD d = true) (he : okD e = true) (h : PyData.shown d = PyData.shown e) : d = e := by
  have z : encD d ++ [] = encD e ++ [] := by
    rw [List.append_nil, List.append_nil, ← shown_codes d hd, ← shown_codes e he, h]
  exact (enc_inj d e [] [] hd he (.inl rfl) (.inl rfl) z).1
mutual
theorem okD_show : ∀ d : PyData, okD d = true → PyData.showable d = true
  | .none, _ => rfl
  | .bool _, _ => rfl
  | .int i, h => by simpa [okD, PyData.showable] using h
  | .str _, _ => rfl
  | .tuple xs, h => by
    rw [PyData.showable]
    exact okDs_show xs (by simpa [okD] using h)
  | .list _, h => by simp [okD] at h
  | .dict _, h => by simp [okD] at h
theorem okDs_show : ∀ xs : List PyData, okDs xs = true → PyData.showableAll xs = true
  | [], _ => rfl
  | x :: xs, h => by
    have h' : okD x = true ∧ okDs xs = true := by simpa [okDs] using h
    rw [PyData.showableAll, okD_show x h'.1, okDs_show xs h'.2]
    rfl
end
mutual
theorem okD_noDict : ∀ d : PyData, okD d = true → PyData.hasDict d = false
  | .none, _ => rfl
  | .bool _, _ => rfl
  | .int i, _ => rfl
  | .str _, _ => rfl
  | .tuple xs, h => by
    rw [PyData.hasDict]
    exact okDs_noDict xs (by simpa [okD] using h)
  | .list _, h => by simp [okD] at h
  | .dict _, h => by simp [okD] at h
theorem okDs_noDict : ∀ xs : List PyData, okDs xs = true → PyData.hasDictAll xs = false
  | [], _ => rfl
  | x :: xs, h => by
    have h' : okD x = true ∧ okDs xs = true := by simpa [okDs] using h
    rw [PyData.hasDictAll, okD_noDict x h'.1, okDs_noDict xs h'.2]
    rfl
end
end Vk
namespace Vk
open PySem PySem.Spec PyProof.Rows L2
/-! # Defs that write values as texts: they are called where no text of a value is being written (no guard) -/
/-- a def's promise, wherever no guard stands -/
structure Gk (P : Program) (w : World) (K : PySem.W.Frag) (mg : Str → Option Value) (base : Heap) (k : Nat) (f : Addr) (fd : FuncData) (ps : List Str) (sp : Sp) : Prop where
  len : ∀ vs H Q E, sp vs H Q E → vs.length = ps.length
  go : ∀ {A : Around} {out : List Env} {s : Shared} {H : Hp} {args : Args} {us : List Value} {vs : List V} {Q : VK} {E : XK},
    A.guards = some [] → Room k A → Env0 P w K mg base A out s H → BindsTo s fd args (ps.zip us) → Vals vs us → sp vs H Q E →
      codeAny (model P w) A (.call (.ref f) args) (CR CX0 out P w H s Q E) s
section
variable {P : Program} {w : World} {K : PySem.W.Frag} {mg : Str → Option Value} {base : Heap} {k : Nat} {f : Addr} {fd : FuncData} {ps : List Str} {sp : Sp}
theorem Gk.of (F : FnOk P w K mg base CX0 k f fd ps sp) : Gk P w K mg base k f fd ps sp :=
  ⟨F.len, fun {A out s H args us vs Q E} _ r e b v h => F.run A out s H args us vs Q E r e b v h⟩
theorem deeper_guards {A : Around} (env : Env) (h : A.guards = some []) : (A.deeper env).guards = some [] := h
/-- the rule for a def that is called where no guard stands: its body as a term, and the reading of it -/
theorem okG {x qual : Str} {st : Stmt} {N : List Str} (F : Fun K x qual st f fd) (S : FnScope N ps (defScope st))
    (len : ∀ vs H Q E, sp vs H Q E → vs.length = ps.length)
    (bodyOk : ∀ (cd : Value) (A : Around) (out : List Env) (s : Shared) (H : Hp) (vs : List V) (Q : VK) (E : XK),
      (A.deeper (envOfC qual (defScope st) s.heap.objs.size f cd)).guards = some [] →
      Room k (A.deeper (envOfC qual (defScope st) s.heap.objs.size f cd)) → sp vs H Q E →
      ∃ t, PSs (cxOf CX0 P w K mg base N qual (defScope st) f cd A out s H E).nox (defBody st) t ∧
        t { nx := fun _ H' => Q .non H', rt := Q } (start N vs) H) : Gk P w K mg base (k + 1) f fd ps sp := by
  obtain ⟨oc, od, kV, doc, pm, an, cd, ct, sl, rfl, look, code⟩ := F.ex
  refine ⟨len, fun {A out s H args us vs Q E} hg room en bind vals want => ?_⟩
  have n1 := len _ _ _ _ want
  have inK : K.In s.heap := en.mod.kin.keeps (fun b o e => (en.bs b o e).1)
  have noLim : s.heap.NoLimit := en.mod.nolimit.keeps (fun b o e => (en.bs b o e).1)
  have kinds : ∀ y ∈ ps.zip us, (defScope st).names.lookup y.1 = some .local ∨
      ((defScope st).names.lookup y.1 = some .cell ∧ ((cellsFrom (s.heap.objs.size + 1) (defScope st).names []).lookup y.1).isSome = true) := by
    rintro ⟨n, u⟩ hy
    cases S.par n (List.of_mem_zip hy).1 with
    | inl q => exact Or.inl q
    | inr q => exact Or.inr ⟨q, PySem.W.cellsFrom_some _ _ _ (Or.inl q)⟩
  refine codeAny_call_function room.depth (inK _ _ look) rfl S.co S.gen rfl (PySem.W.codeRec_of inK code) (bind _ _ _ _ ?_)
  refine wpAny_newFunctionEnv_cells S.kind kinds (fun env he st1 inCall => ?_)
  cases he
  refine ⟨noLim.keeps inCall.toInCall.keep, codeAny_func ?_⟩
  obtain ⟨t, ht, hq⟩ := bodyOk cd A out s H vs Q E hg (room.deeper _) want
  have inv : Inv (cxOf CX0 P w K mg base N qual (defScope st) f cd A out s H E) [] (start N vs) H st1 := inv_start S room.hd en n1 vals inCall
  refine wpAny_mono (ht.nox.run [] st1 _ H _ inv hq) (fun fl s2 h2 => ?_) (fun e s2 h2 => h2)
  have fin : ∀ {σ : L2.St} {H2 : Hp} {v : V} {u : Value}, Inv (cxOf CX0 P w K mg base N qual (defScope st) f cd A out s H E) [] σ H2 s2 → RelV v u → Q v H2 → CE out P w H s Q u s2 :=
    fun {σ H2 v u} J r q => ⟨v, H2, J.os, J.bare, J.base, J.hok, r, q⟩
  match fl, h2 with
  | .ret u, ⟨v, σ, H2, J, r, q⟩ => exact fin J r q
  | .next, ⟨σ, H2, J, q⟩ => exact fin (v := V.non) (u := Value.none) J rfl q
  | .brk, ⟨_, _, _, q⟩ => exact q.elim
  | .cont, ⟨_, _, _, q⟩ => exact q.elim
end
section
variable {X : Cx} {k : Nat} {f C : Addr} {fd : FuncData} {ps : List Str} {sp : Sp} {x m : Str} {p pos apos : Pos} {e o : Expr} {es : List Expr} {ta : TE} {t : TA}
theorem runG {pins : List (Addr × Obj)} {σ : L2.St} {H : Hp} {s : Shared} {Q : VK} {us : List Value} {vs : List V} (hg : X.A.guards = some []) (F : Gk X.prog X.w X.K X.mg X.base k f fd ps sp) (room : Room k X.A) (B : Binds X.K fd ps [])
    (I : Inv X pins σ H s) (vals : Vals vs us) (want : sp vs H Q E0) : wpAny (model X.prog X.w) X.A (call (.ref f) us) (EP X pins σ Q) X.xe s := by
  have n1 : us.length = ps.length := by
    rw [← vals.length]
    exact F.len _ _ _ _ want
  have bind := B s us I.kIn (by rw [List.append_nil]; exact n1)
  rw [List.append_nil] at bind
  refine wpAny_call (codeAny_mono (F.go (args := ⟨us, []⟩) hg room I.env0 bind vals want) (fun r s2 h2 => ?_))
  match r, h2 with
  | .error _, h => exact h.elim
  | .ok (.ret u), h => exact I.after h
  | .ok .next, h => exact h.elim
  | .ok .brk, h => exact h.elim
  | .ok .cont, h => exact h.elim
/-- f(e, ..) -/
theorem pe_callG (hg : X.A.guards = some []) (F : Gk X.prog X.w X.K X.mg X.base k f fd ps sp) (room : Room k X.A) (gl : Gl X x) (hm : X.mg x = some (.ref f)) (kp : PySem.W.keepIn X.K (.ref f) = true) (B : Binds X.K fd ps [])
    (ha : PA X (e :: es) t) (dbg : (x == ("__debug__" : Str)) = false := by decide)
    (st : starEach (e :: es) X.env = (false, eval e X.env) :: starEach es X.env := by rfl)
    (pl : (backTo pos (starEach es X.env)).any (·.1) = false := by rfl) :
    PE X (.Call (.Name x p) (e :: es) [] pos) (tCall sp [] E0 t) := by
  constructor
  intro pins s σ H Q I h
  refine wpAny_Call_Name_kw (ld_glob I gl hm ?_ dbg)
  refine PySem.W.callWith_K (h₀ := X.base) I.ok.mod.kin kp (thn (ha.run pos pins s σ H _ I h) ?_) st pl
  rintro us s1 ⟨vs, H1, I1, r, q⟩
  rw [List.append_nil] at q
  exact ⟨I1.kIn, runG hg F room B I1 r q⟩
/-- o.m(e, ..) -/
theorem pe_methG {pl : Sem Bool} (hg : X.A.guards = some []) (he : PE X o ta) (c : Cls X.K C) (hm : Meth X.K C m f) (F : Gk X.prog X.w X.K X.mg X.base k f fd ps sp) (room : Room k X.A) (B : Binds X.K fd ps [])
    (ha : PA X (e :: es) t)
    (st : starEach (e :: es) X.env = (false, eval e X.env) :: starEach es X.env := by rfl)
    (pb : (backTo pos (starEach es X.env)).any (·.1) = false := by rfl)
    (ht : eval (.Call (.Attribute o m apos) (e :: es) [] pos) X.env = (do
        let ov ← eval o X.env
        standAt apos.atName
        let fm ← holding [ov] (getMethod ov m pl)
        callWith pos fm.1 fm.2 (backTo pos (starEach (e :: es) X.env)) (backToKw pos (keywordEach [] X.env))) := by rfl) :
    PE X (.Call (.Attribute o m apos) (e :: es) [] pos) (tMeth C m sp [] E0 ta t) := by
  constructor
  intro pins s σ H Q I h
  refine PySem.W.methodCall_KW (pl := pl) (thn (he.run pins s σ H _ I h) ?_) ht
  rintro u s1 ⟨v, H1, I1, rv, a, dx, fs, ev, ea, lo, q⟩
  cases ev
  cases (show u = Value.ref a from rv)
  refine getmeth_ok I1 ea c hm lo ?_
  refine PySem.W.callWith_K (first := [.ref a]) (h₀ := X.base) I.ok.mod.kin hm.kp (thn (ha.run pos pins s1 σ H1 _ I1 q) ?_) st pb
  rintro us s2 ⟨vs, H2, I2, r, q2⟩
  rw [List.append_nil] at q2
  exact ⟨I2.kIn, runG (us := .ref a :: us) (vs := .ref a :: vs) hg F room B I2 (.cons rfl r) q2⟩
/-- repr of a plain value -/
def rRepr (K : PySem.W.Frag) : List V → Hp → VK → Prop := fun xs H Q => ∃ x d, xs = [x] ∧ Dp K H x d ∧ okD d = true ∧ d.depth ≤ 60 ∧ d.shown.length ≤ sizeLine ∧ Q (.str d.shown) H
theorem call_reprD (hg : X.A.guards = some []) (room : Room k X.A) : CallR X (.builtin "repr") (rRepr X.K) := by
  intro pins s σ H xs us Q I r h
  obtain ⟨x, d, rfl, hd, ok, dep, len, q⟩ := h
  obtain ⟨u, rfl, rx⟩ := vals1 r
  have hu := room.units
  cases d with
  | none =>
    cases hd
    cases rx
    exact PySem.P.repr_of_none ⟨.str _, H, I.tok _, ⟨_, rfl⟩, q⟩
  | bool b =>
    cases hd
    cases rx
    exact PySem.P.repr_of_bool ⟨.str _, H, I.tok _, ⟨_, rfl⟩, q⟩
  | int i =>
    cases hd
    obtain ⟨t, rfl⟩ := rx
    exact PySem.P.repr_of_int (by simpa [okD] using ok) ⟨.str _, H, I.tok _, ⟨_, rfl⟩, q⟩
  | str y =>
    cases hd
    obtain ⟨t, rfl⟩ := rx
    exact PySem.P.repr_of_str ⟨.str _, H, I.tok _, ⟨_, rfl⟩, q⟩ (by simpa [PyData.shown] using len)
  | tuple xs =>
    obtain ⟨as, rd⟩ := Dp.reads I _ _ _ hd rx
    cases hd
    cases rx
    refine PySem.repr_of_reads' rd (okD_show _ ok) (fun z => ?_) hg (by omega) (fun _ _ e => e) (fun h' u tk kp => ?_) len
    · rw [okD_noDict _ ok] at z
      cases z
    · exact ⟨.str _, H, I.kept (t' := tk) kp, ⟨u, rfl⟩, q⟩
  | list _ => simp [okD] at ok
  | dict _ => simp [okD] at ok
end
/-! ## the law's own call -/
theorem callG {P : Program} {w : World} {K : PySem.W.Frag} {mg mb : Str → Option Value} {k : Nat} {fa a : Addr} {fd : FuncData} {x : Str} {sp : Sp} {st : Shared} {us : List Value} {ns : List Int}
    (inK : K.In st.heap) (nsM : st.heap.Ns mainGlobals mg) (nsB : st.heap.Ns builtinsNs mb) (boot : ∀ x : Str, x ≠ "__name__" → mb x = bootBuiltins x) (noLim : st.heap.NoLimit) (noGen : st.gens = #[])
    (atA : st.heap.get? a = some { cls := .type "list", data := .seq us.toArray }) (intsA : IntsAre us ns) (len : ns.length ≤ sizeLine) (room : Room k callerA)
    (F : ∀ base : Heap, K.In base → base.Ns mainGlobals mg → Gk P w K mg base k fa fd [x] sp) (bind : ∀ (s : Shared) (u : Value), BindsTo s fd ⟨[u], []⟩ [(x, u)])
    (want : ∀ H : Hp, Only H → SqL K H a (ns.map V.int) → sp [.ref a] H (fun v _ => v = .bl true) fun _ _ _ => False) :
    codeAny (model P w) callerA (.call (.ref fa) ⟨[.ref a], []⟩) (fun r s' => r = .ok (.ret (.bool true)) ∧ OldK st.heap s'.heap ∧ s'.os = st.os ∧ AllBare s'.gens) st := by
  have valsA : Vals (ns.map V.int) us := vals_ints intsA
  have sizes := intsA.length
  have main : ∀ H : Hp, Only H → SqL K H a (ns.map V.int) → HOk P w H st.heap → (∀ b, H b ≠ none → b = a) → (H a ≠ none → K.lookup a = none) →
      codeAny (model P w) callerA (.call (.ref fa) ⟨[.ref a], []⟩) (fun r s' => r = .ok (.ret (.bool true)) ∧ OldK st.heap s'.heap ∧ s'.os = st.os ∧ AllBare s'.gens) st := by
    intro H only sq ok atMost apart
    have dictFree : ∀ {b : Addr} {o : Obj} {es : Array DictEntry} {ep : Nat}, st.heap.get? b = some o → o.data = .dict es ep → H b = none := by
      intro b o es ep e d
      cases hb : H b with
      | none => rfl
      | some u =>
        cases atMost b (by rw [hb]; exact fun z => nomatch z)
        rw [atA] at e
        cases e
        exact nomatch (show Data.seq us.toArray _ = Data.dict es ep from d)
    have nsH : ∀ {b : Addr} {m : Str → Option Value}, st.heap.Ns b m → (hidT st.heap H).Ns b m := by
      rintro b m ⟨o, es, ep, e, d, rest⟩
      exact ⟨o, es, ep, hidT_get e (dictFree e d), d, rest⟩
    have inH : K.In (hidT st.heap H) := by
      intro b o e
      refine hidT_get (inK b o e) ?_
      cases hb : H b with
      | none => rfl
      | some u =>
        have eb := atMost b (by rw [hb]; exact fun z => nomatch z)
        rw [eb] at e hb
        rw [apart (by rw [hb]; exact fun z => nomatch z)] at e
        cases e
    have modH : Mod K mg (hidT st.heap H) := by
      obtain ⟨mc, z1, z2⟩ := id noLim
      exact ⟨inH, nsH nsM, ⟨mb, nsH nsB, boot⟩, ⟨mc, nsH z1, z2⟩⟩
    have en : Env0 P w K mg (hidT st.heap H) callerA [] st H :=
      { frames := rfl, mod := modH, bs := fun b o e => of_hidT e, bsz := Nat.le_of_eq (hidT_size _ _), funs := trivial, frf := (fun b hb => nomatch hb), hok := ok, bare := .of_eq noGen }
    have run := (F _ inH (nsH nsM)).go (out := []) (args := ⟨[.ref a], []⟩) (us := [.ref a]) (vs := [.ref a]) rfl room en (bind st (.ref a)) (.cons rfl .nil) (want H only sq)
    refine codeAny_mono run (fun r s2 h2 => ?_)
    match r, h2 with
    | .error _, h => exact h.elim
    | .ok .next, h => exact h.elim
    | .ok .brk, h => exact h.elim
    | .ok .cont, h => exact h.elim
    | .ok (.ret u), ⟨v, H2, osE, bareE, un, ok2, rv, q⟩ =>
      cases (show v = .bl true from q)
      cases (show u = Value.bool true from rv)
      refine ⟨rfl, OldK.of_keep (fun b o e => ?_), osE, bareE⟩
      cases hb : H b with
      | none => exact un.keep b o e hb (fun z => nomatch z) (fun z => nomatch z)
      | some u =>
        rcases only b with z | ⟨ob, xs, z⟩
        · rw [hb] at z
          cases z
        · have y1 := (ok b _ z).1
          have y2 := (ok2 b _ (un.frzs b ob _ z)).1
          rw [e] at y1
          cases y1
          exact y2
  cases known : K.lookup a with
  | some o =>
    have e := inK a o known
    rw [atA] at e
    cases e
    refine main (fun _ => none) (fun _ => Or.inl rfl) (Or.inr ⟨_, us.toArray, _, known, rfl, rfl, rfl, ?_, by simpa using valsA⟩) (fun b u z => nomatch z) (fun b z => absurd rfl z) (fun z => absurd rfl z)
    rw [List.size_toArray, sizes]
    exact len
  | none =>
    have at1 : ∀ {b : Addr} {o : HO}, (if b = a then some (HO.frz { cls := .type "list", data := .seq us.toArray } (.lst (ns.map V.int))) else none) = some o → b = a ∧ o = HO.frz { cls := .type "list", data := .seq us.toArray } (.lst (ns.map V.int)) := by
      intro b o z
      by_cases hb : b = a
      · rw [if_pos hb] at z
        exact ⟨hb, (Option.some.inj z).symm⟩
      · rw [if_neg hb] at z
        cases z
    refine main (fun b => if b = a then some (.frz { cls := .type "list", data := .seq us.toArray } (.lst (ns.map V.int))) else none) (fun b => ?_) (Or.inl (Or.inr ⟨_, if_pos rfl⟩)) (fun b u z => ?_) (fun b z => ?_) (fun _ => known)
    · by_cases hb : b = a
      · exact Or.inr ⟨_, _, if_pos hb⟩
      · exact Or.inl (if_neg hb)
    · obtain ⟨e1, e2⟩ := at1 z
      subst e1 e2
      exact ⟨atA, by rw [List.length_map]; exact len, us, _, valsA, atA⟩
    · by_cases hb : b = a
      · exact hb
      · exact absurd (if_neg hb) z
theorem walkG {l : PySem.W.OpenLaw} {n k : Nat} {q : Program} {loose : List Str} {XP : (Str → Option Value) → Heap → Prop} {YP : World → Heap → Prop} {d : DefRec} {K : Params → PySem.W.Frag} {sp : World → Sp} {x : Str}
    (most : l.most = some n) (small : n ≤ sizeLine) (plain : d.params.defaults = []) (room : Room k callerA)
    (atK : ∀ (w : World) (h : Heap), YP w h → (K w.params).In h)
    (F : ∀ (w : World) (mg : Str → Option Value) (fa : Addr) (h : Heap), (K w.params).In h → h.Ns mainGlobals mg → mg d.name = some (.ref fa) →
      ∃ fd : FuncData, (∀ (s : Shared) (u : Value), BindsTo s fd ⟨[u], []⟩ [(x, u)]) ∧
        ∀ base : Heap, (K w.params).In base → base.Ns mainGlobals mg → Gk l.prog w (K w.params) mg base k fa fd [x] (sp w))
    (want : ∀ (w : World) (H : Hp) (a : Addr) (ns : List Int), ns.length ≤ n → Only H → SqL (K w.params) H a (ns.map V.int) → sp w [.ref a] H (fun v _ => v = .bl true) fun _ _ _ => False) :
    PySem.W.WalkO q loose XP YP l.row.toRowW d [] (fun f vs => PySem.call f vs) := by
  refine Att.attach_call most plain (fun w s0 st mg mb fa o pm cd doc a us ns G Y hO hD cdo atMg atObj intsA len noGen => ?_)
  have inK := atK w _ Y
  obtain ⟨fd, bind, hF⟩ := F w mg fa _ inK G.T.g atMg
  exact callG inK G.T.g G.T.b G.T.builtins G.T.nolimit noGen atObj intsA (Nat.le_trans len small) room hF bind (fun H hO2 hS => want w H a ns len hO2 hS)
end Vk
namespace Vk
open PySem PySem.Spec PyProof.Rows L2
/-! # Plain data on the heap -/
def KeepT (H H' : Hp) : Prop := ∀ a o, (∃ xs, o = .tup xs ∨ ∃ ob, o = .frz ob (.tup xs)) → H a = some o → H' a = some o
theorem keepT_of {H H' : Hp} (s : Same H H') : KeepT H H' := fun a o _ h => s a o h
theorem KeepT.seq {K : PySem.W.Frag} {H H' : Hp} {a : Addr} {xs : List V} (k : KeepT H H') (h : SqT K H a xs) : SqT K H' a xs := by
  rcases h with (h | ⟨o, h⟩) | h
  · exact .inl (.inl (k _ _ ⟨xs, .inl rfl⟩ h))
  · exact .inl (.inr ⟨o, k _ _ ⟨xs, .inr ⟨o, rfl⟩⟩ h⟩)
  · exact .inr h
theorem KeepT.refl (H : Hp) : KeepT H H := fun _ _ _ h => h
theorem KeepT.trans {H H1 H2 : Hp} (a : KeepT H H1) (b : KeepT H1 H2) : KeepT H H2 := fun c o t h => b c o t (a c o t h)
theorem KeepT.new {H : Hp} {p : Addr} {o : HO} (h : H p = none) : KeepT H (upd H p o) := fun a u _ e => by
  rw [upd_ne (ne_of_none e h)]
  exact e
/-- an object that is no tuple is changed -/
theorem KeepT.put {H : Hp} {p : Addr} {u o : HO} (h : H p = some u) (nt : ∀ xs, u ≠ .tup xs) (nf : ∀ ob xs, u ≠ .frz ob (.tup xs)) : KeepT H (upd H p o) := fun a v t e => by
  have ne : a ≠ p := by
    intro z
    subst z
    rw [h] at e
    cases e
    obtain ⟨ys, t | ⟨ob, t⟩⟩ := t
    · exact nt _ t
    · exact nf _ _ t
  rw [upd_ne ne]
  exact e
theorem KeepT.lst {H : Hp} {p : Addr} {xs : List V} {o : HO} (h : H p = some (.lst xs)) : KeepT H (upd H p o) := KeepT.put h (fun _ z => nomatch z) (fun _ _ z => nomatch z)
theorem KeepT.dK {H : Hp} {p : Addr} {kvs : List (Key × V)} {o : HO} (h : H p = some (.dK kvs)) : KeepT H (upd H p o) := KeepT.put h (fun _ z => nomatch z) (fun _ _ z => nomatch z)
mutual
theorem dp_keep {K : PySem.W.Frag} {H H' : Hp} (k : KeepT H H') : ∀ (d : PyData) (v : V), okD d = true → Dp K H v d → Dp K H' v d
  | .none, _, _, h => by cases h; exact .non
  | .bool b, _, _, h => by cases h; exact .bl b
  | .int i, _, _, h => by cases h; exact .int i
  | .str x, _, _, h => by cases h; exact .str x
  | .list ds, _, n, _ => by simp [okD] at n
  | .dict ds, _, n, _ => by simp [okD] at n
  | .tuple ds, _, n, h => by
    cases h with
    | tup hs ha => exact .tup (k.seq hs) (dp_keepAll k ds _ (by simpa [okD] using n) ha)
theorem dp_keepAll {K : PySem.W.Frag} {H H' : Hp} (k : KeepT H H') : ∀ (ds : List PyData) (vs : List V), okDs ds = true → DpAll K H vs ds → DpAll K H' vs ds
  | [], _, _, h => by cases h; exact .nil
  | d :: ds, _, n, h => by
    have n' : okD d = true ∧ okDs ds = true := by simpa [okDs] using n
    cases h with
    | cons h1 h2 => exact .cons (dp_keep k d _ n'.1 h1) (dp_keepAll k ds _ n'.2 h2)
end
theorem dp_app {K : PySem.W.Frag} {H : Hp} : ∀ {xs ys : List V} {ds es : List PyData}, DpAll K H xs ds → DpAll K H ys es → DpAll K H (xs ++ ys) (ds ++ es)
  | _, _, _, _, .nil, h => h
  | _, _, _, _, .cons a b, h => .cons a (dp_app b h)
theorem dp_len {K : PySem.W.Frag} {H : Hp} : ∀ {xs : List V} {ds : List PyData}, DpAll K H xs ds → xs.length = ds.length
  | _, _, .nil => rfl
  | _, _, .cons _ b => congrArg Nat.succ (dp_len b)
theorem dp_at {K : PySem.W.Frag} {H : Hp} : ∀ {xs : List V} {ds : List PyData} {i : Nat} {d : PyData}, DpAll K H xs ds → ds[i]? = some d → ∃ v, xs[i]? = some v ∧ Dp K H v d
  | _, _, _, _, .nil, h => by simp at h
  | _, _, 0, _, .cons a _, h => by simp at h; subst h; exact ⟨_, rfl, a⟩
  | _, _, i + 1, _, .cons _ b, h => by
    obtain ⟨v, e, q⟩ := dp_at (i := i) b (by simpa using h)
    exact ⟨v, by simpa using e, q⟩
theorem dp_at' {K : PySem.W.Frag} {H : Hp} : ∀ {xs : List V} {ds : List PyData} {i : Nat} {v : V}, DpAll K H xs ds → xs[i]? = some v → ∃ d, ds[i]? = some d ∧ Dp K H v d
  | _, _, _, _, .nil, h => by simp at h
  | _, _, 0, _, .cons a _, h => by simp at h; subst h; exact ⟨_, rfl, a⟩
  | _, _, i + 1, _, .cons _ b, h => by
    obtain ⟨d, e, q⟩ := dp_at' (i := i) b (by simpa using h)
    exact ⟨d, by simpa using e, q⟩
theorem okDs_at : ∀ {ds : List PyData} {i : Nat} {d : PyData}, okDs ds = true → ds[i]? = some d → okD d = true
  | [], _, _, _, h => by simp at h
  | x :: xs, 0, d, o, h => by
    have o' : okD x = true ∧ okDs xs = true := by simpa [okDs] using o
    simp at h; subst h; exact o'.1
  | x :: xs, i + 1, d, o, h => by
    have o' : okD x = true ∧ okDs xs = true := by simpa [okDs] using o
    exact okDs_at (i := i) o'.2 (by simpa using h)
theorem okDs_app : ∀ {ds es : List PyData}, okDs ds = true → okDs es = true → okDs (ds ++ es) = true
  | [], _, _, h => h
  | x :: xs, es, o, h => by
    have o' : okD x = true ∧ okDs xs = true := by simpa [okDs] using o
    simp only [List.cons_append, okDs, o'.1, okDs_app o'.2 h, Bool.and_self]
theorem okDs_all : ∀ {ds : List PyData}, (∀ d ∈ ds, okD d = true) → okDs ds = true
  | [], _ => rfl
  | x :: xs, h => by
    simp only [okDs, h x List.mem_cons_self, okDs_all (ds := xs) fun d hd => h d (List.mem_cons_of_mem _ hd), Bool.and_self]
theorem depth_at : ∀ {ds : List PyData} {i : Nat} {d : PyData}, ds[i]? = some d → d.depth ≤ PyData.depthAll ds
  | [], _, _, h => by simp at h
  | x :: xs, 0, d, h => by
    simp at h; subst h
    simp only [PyData.depthAll]
    omega
  | x :: xs, i + 1, d, h => by
    have z := depth_at (ds := xs) (i := i) (d := d) (by simpa using h)
    simp only [PyData.depthAll]
    omega
/-! ## kinds -/
def tyD : PyData → String
  | .none => "NoneType"
  | .bool _ => "bool"
  | .int _ => "int"
  | .str _ => "str"
  | .tuple _ => "tuple"
  | .list _ => "list"
  | .dict _ => "dict"
theorem sqT_ty {K : PySem.W.Frag} {H : Hp} {a : Addr} {xs : List V} (h : SqT K H a xs) : TyX K H (.ref a) (.type "tuple") := by
  rcases h with (h | ⟨o, h⟩) | ⟨o, its, n, h1, h2, _⟩
  · exact .base (.tup h)
  · exact .fTuple h
  · exact .kTuple h1 h2
theorem dp_ty {K : PySem.W.Frag} {H : Hp} {v : V} {d : PyData} (h : Dp K H v d) (ok : okD d = true) : TyX K H v (.type (tyD d)) := by
  cases h with
  | non => exact .base .non
  | bl b => exact .base (.bl b)
  | int i => exact .base (.int i)
  | str x => exact .base (.str x)
  | lst _ _ => simp [okD] at ok
  | tup hs _ => exact sqT_ty hs
def isTupD : PyData → Bool
  | .tuple _ => true
  | _ => false
def isBoolD : PyData → Bool
  | .bool _ => true
  | _ => false
theorem kit_tup {K : PySem.W.Frag} {d : PyData} (ok : okD d = true) : PySem.W.kitOne K (.type (tyD d)) (.type "tuple") = some (isTupD d) := by
  cases d with
  | none => exact kit_ty (a := "NoneType") (r := false) (by decide +kernel)
  | bool b => exact kit_ty (a := "bool") (r := false) (by decide +kernel)
  | int i => exact kit_ty (a := "int") (r := false) (by decide +kernel)
  | str x => exact kit_ty (a := "str") (r := false) (by decide +kernel)
  | tuple xs => exact kit_ty (a := "tuple") (r := true) (by decide +kernel)
  | list _ => simp [okD] at ok
  | dict _ => simp [okD] at ok
theorem kit_bool {K : PySem.W.Frag} {d : PyData} (ok : okD d = true) : PySem.W.kitOne K (.type (tyD d)) (.type "bool") = some (isBoolD d) := by
  cases d with
  | none => exact kit_ty (a := "NoneType") (r := false) (by decide +kernel)
  | bool b => exact kit_ty (a := "bool") (r := true) (by decide +kernel)
  | int i => exact kit_ty (a := "int") (r := false) (by decide +kernel)
  | str x => exact kit_ty (a := "str") (r := false) (by decide +kernel)
  | tuple xs => exact kit_ty (a := "tuple") (r := false) (by decide +kernel)
  | list _ => simp [okD] at ok
  | dict _ => simp [okD] at ok
/-! ## two values are one -/
mutual
def eqD : PyData → PyData → Bool
  | .none, .none => true
  | .bool a, .bool b => decide (a = b)
  | .int a, .int b => decide (a = b)
  | .str a, .str b => decide (a = b)
  | .tuple xs, .tuple ys => eqDs xs ys
  | _, _ => false
def eqDs : List PyData → List PyData → Bool
  | [], [] => true
  | x :: xs, y :: ys => eqD x y && eqDs xs ys
  | _, _ => false
end
mutual
theorem eqD_iff : ∀ d e : PyData, okD d = true → (eqD d e = true ↔ d = e)
  | .none, e, _ => by cases e <;> simp [eqD]
  | .bool a, e, _ => by cases e <;> simp [eqD]
  | .int a, e, _ => by cases e <;> simp [eqD]
  | .str a, e, _ => by cases e <;> simp [eqD]
  | .tuple xs, e, h => by
    have h' : okDs xs = true := by simpa [okD] using h
    cases e with
    | tuple ys => simp only [eqD, PyData.tuple.injEq]; exact eqDs_iff xs ys h'
    | _ => simp [eqD]
  | .list _, _, h => by simp [okD] at h
  | .dict _, _, h => by simp [okD] at h
theorem eqDs_iff : ∀ xs ys : List PyData, okDs xs = true → (eqDs xs ys = true ↔ xs = ys)
  | [], [], _ => by simp [eqDs]
  | [], _ :: _, _ => by simp [eqDs]
  | _ :: _, [], _ => by simp [eqDs]
  | x :: xs, y :: ys, h => by
    have h' : okD x = true ∧ okDs xs = true := by simpa [okDs] using h
    simp only [eqDs, Bool.and_eq_true, List.cons.injEq, eqD_iff x y h'.1, eqDs_iff xs ys h'.2]
end
theorem eqDs_at : ∀ (xs ys : List PyData), xs.length = ys.length → (eqDs xs ys = true ↔ ∀ (i : Nat) (x y : PyData), xs[i]? = some x → ys[i]? = some y → eqD x y = true)
  | [], [], _ => by simp [eqDs]
  | [], _ :: _, h => by cases h
  | _ :: _, [], h => by cases h
  | x :: xs, y :: ys, h => by
    have ih := eqDs_at xs ys (Nat.succ.inj h)
    simp only [eqDs, Bool.and_eq_true, ih]
    constructor
    · rintro ⟨h1, h2⟩ i a b ha hb
      cases i with
      | zero => simp at ha hb; subst ha hb; exact h1
      | succ i => exact h2 i a b (by simpa using ha) (by simpa using hb)
    · intro h3
      exact ⟨h3 0 x y rfl rfl, fun i a b ha hb => h3 (i + 1) a b (by simpa using ha) (by simpa using hb)⟩
theorem eqDs_len : ∀ (xs ys : List PyData), xs.length ≠ ys.length → eqDs xs ys = false
  | [], [], h => absurd rfl h
  | [], _ :: _, _ => by simp [eqDs]
  | _ :: _, [], _ => by simp [eqDs]
  | x :: xs, y :: ys, h => by
    have ih := eqDs_len xs ys (fun z => h (congrArg Nat.succ z))
    simp [eqDs, ih]
/-! ## lengths of texts -/
theorem enc_one (d : PyData) : (encD (.tuple [d])).length = (encD d).length + 3 := by
  simp only [encD, encDs, joinL, closeL]
  simp
theorem enc_two (d e : PyData) : (encD (.tuple [d, e])).length = (encD d).length + (encD e).length + 4 := by
  simp only [encD, encDs, joinL, closeL]
  simp
  omega
theorem shown_length {d : PyData} (h : okD d = true) : (PyData.shown d).length = (encD d).length := by
  rw [← shown_codes d h]
  show (PyData.shown d).cps.size = _
  simp
theorem intL_len {i : Int} {k : Nat} (hk : 1 ≤ k) (h : i.natAbs < 10 ^ k) : (intL i).length ≤ k + 1 := by
  cases i with
  | ofNat m =>
    unfold intL
    rw [text_ofNat]
    have z := digits10_le hk (n := m) h
    simp
    omega
  | negSucc m =>
    have e : intL (Int.negSucc m) = 45 :: (Nat.toDigits 10 (m + 1)).map Char.toNat := by
      unfold intL
      rw [ofString_codes]
      show ("-" ++ Nat.repr (m + 1)).toList.map Char.toNat = _
      rw [String.toList_append, List.map_append]
      show [45] ++ (Nat.repr (m + 1)).toList.map Char.toNat = _
      have e2 : (Nat.repr (m + 1)).toList = Nat.toDigits 10 (m + 1) := by
        unfold Nat.repr
        exact String.toList_ofList
      rw [e2]
      rfl
    rw [e]
    have z := digits10_le hk (n := m + 1) h
    simp
    omega
theorem int_ok {i : Int} {k : Nat} (h : i.natAbs < 2 ^ k) (hk : k ≤ 1920) (h0 : 0 < k) : okD (.int i) = true := by
  simp only [okD]
  refine decide_eq_true ?_
  by_cases z : i.natAbs = 0
  · rw [z]
    decide
  · exact Nat.lt_of_lt_of_le ((Nat.log2_lt z).mpr h) hk
theorem atI_some {α : Type} {xs : List α} {i : Int} (h0 : 0 ≤ i) (h1 : i < xs.length) : ∃ v, atI xs i = some v ∧ v ∈ xs := by
  have e : i = ((i.toNat : Nat) : Int) := by omega
  have hl : i.toNat < xs.length := by omega
  have z : atI xs ((i.toNat : Nat) : Int) = some xs[i.toNat] := atI_nat (List.getElem?_eq_getElem hl)
  rw [← e] at z
  exact ⟨_, z, List.getElem_mem hl⟩
theorem take_next {α : Type} {l : List α} {i : Nat} {x : α} (h : l[i]? = some x) : l.take (i + 1) = l.take i ++ [x] := by
  rw [List.take_add_one, h]
  rfl
theorem same_new {H : Hp} {p : Addr} {o : HO} (h : H p = none) : Same H (upd H p o) := fun b u e => by
  rw [upd_ne (ne_of_none e h)]
  exact e
theorem ifT {c : Bool} {A B : Prop} (h : c = true) (x : A) : if c = true then A else B := by
  rw [if_pos h]
  exact x
theorem ifF {c : Bool} {A B : Prop} (h : c = false) (x : B) : if c = true then A else B := by
  rw [h, if_neg Bool.false_ne_true]
  exact x
theorem bo_len : bootBuiltins "len" = some (.builtin "len") := by decide +kernel
theorem bo_int : bootBuiltins "int" = some (.type "int") := by decide +kernel
theorem bo_tuple : bootBuiltins "tuple" = some (.type "tuple") := by decide +kernel
theorem bo_list : bootBuiltins "list" = some (.type "list") := by decide +kernel
theorem bo_str : bootBuiltins "str" = some (.type "str") := by decide +kernel
theorem bo_type : bootBuiltins "type" = some (.type "type") := by decide +kernel
theorem bo_isinstance : bootBuiltins "isinstance" = some (.builtin "isinstance") := by decide +kernel
theorem bo_repr : bootBuiltins "repr" = some (.builtin "repr") := by decide +kernel
theorem bo_max : bootBuiltins "max" = some (.builtin "max") := by decide +kernel
theorem bo_min : bootBuiltins "min" = some (.builtin "min") := by decide +kernel
/-- a def that is called: what it promises, where it stands -/
structure Cal (P : Program) (w : World) (K : PySem.W.Frag) (mg : Str → Option Value) (base : Heap) (x : Str) (k : Nat) (f : Addr) (fd : FuncData) (ps : List Str) (sp : Sp) : Prop where
  G : FnOk P w K mg base CX0 k f fd ps sp
  mg : mg x = some (.ref f)
  kp : PySem.W.keepIn K (.ref f) = true
  B : Binds K fd ps []
structure CalG (P : Program) (w : World) (K : PySem.W.Frag) (mg : Str → Option Value) (base : Heap) (x : Str) (k : Nat) (f : Addr) (fd : FuncData) (ps : List Str) (sp : Sp) : Prop where
  G : Gk P w K mg base k f fd ps sp
  mg : mg x = some (.ref f)
  kp : PySem.W.keepIn K (.ref f) = true
  B : Binds K fd ps []
/-- a method that is called -/
structure CalM (P : Program) (w : World) (K : PySem.W.Frag) (mg : Str → Option Value) (base : Heap) (C : Addr) (x : Str) (k : Nat) (f : Addr) (fd : FuncData) (ps : List Str) (sp : Sp) : Prop where
  G : Gk P w K mg base k f fd ps sp
  cl : Cls K C
  mt : Meth K C x f
  B : Binds K fd ps []
end Vk
namespace Vk
open PySem PySem.Spec PyProof.Rows L2
open C8 (pss_cut tCut)
/-! # Kinds of values, by type() -/
section
variable {X : Cx}
@[irreducible] def rTypX (K : PySem.W.Frag) : List V → Hp → VK → Prop := fun xs H Q => (∃ x n, xs = [x] ∧ zTyV x H = some n ∧ Q (.ty n) H) ∨
  (∃ a kvs, xs = [.ref a] ∧ H a = some (.dK kvs) ∧ Q (.ty "dict") H) ∨ (∃ a C dx fs, xs = [V.ref a] ∧ H a = some (.ins C dx fs) ∧ Q (.ref C) H) ∨ ∃ a ys, xs = [V.ref a] ∧ SqT K H a ys ∧ Q (.ty "tuple") H
theorem call_typX : CallR X (.type "type") (rTypX X.K) := by
  intro pins s σ H xs us Q I r h
  unfold rTypX at h
  rcases h with ⟨x, n, rfl, e, q⟩ | ⟨a, kvs, rfl, e, q⟩ | h | ⟨a, ys, rfl, e, q⟩
  · obtain ⟨u, rfl, rx⟩ := vals1 r
    exact rl_type pins s σ H x u Q I rx ⟨n, e, q⟩
  · obtain ⟨u, rfl, rx⟩ := vals1 r
    cases rx
    obtain ⟨_, _, vs, _, o, es, ep, h1, h2, _⟩ := (show ObjOk X.prog X.w H s.heap a (.dK kvs) from I.hok a _ e)
    exact call_type_of (Tx := "dict") ⟨o, h1, h2.1⟩ (by decide +kernel) ⟨.ty "dict", H, I, rfl, q⟩
  · exact cr_type pins s σ H xs us Q I r h
  · obtain ⟨u, rfl, rx⟩ := vals1 r
    cases rx
    obtain ⟨its, rv, p, _⟩ := I.tuple e
    exact call_type_of (Tx := "tuple") p.typeIs (by decide +kernel) ⟨.ty "tuple", H, I, rfl, q⟩
theorem typ_go {K : PySem.W.Frag} {H : Hp} {Q : VK} {x : V} {n : String} (e : zTyV x H = some n) (q : Q (.ty n) H) : rTypX K [x] H Q := by
  unfold rTypX
  exact .inl ⟨x, n, rfl, e, q⟩
theorem typ_goD {K : PySem.W.Frag} {H : Hp} {Q : VK} {a : Addr} {kvs : List (L2.Key × V)} (e : H a = some (.dK kvs)) (q : Q (.ty "dict") H) : rTypX K [.ref a] H Q := by
  unfold rTypX
  exact .inr (.inl ⟨a, kvs, rfl, e, q⟩)
theorem typ_goI {K : PySem.W.Frag} {H : Hp} {Q : VK} {a C dx : Addr} {fs : List (Str × V)} (e : H a = some (.ins C dx fs)) (q : Q (.ref C) H) : rTypX K [.ref a] H Q := by
  unfold rTypX
  exact .inr (.inr (.inl ⟨a, C, dx, fs, rfl, e, q⟩))
theorem typ_goT {K : PySem.W.Frag} {H : Hp} {Q : VK} {a : Addr} {ys : List V} (e : SqT K H a ys) (q : Q (.ty "tuple") H) : rTypX K [.ref a] H Q := by
  unfold rTypX
  exact .inr (.inr (.inr ⟨a, ys, rfl, e, q⟩))
/-- is, between classes: two built-in ones, or an own one and a built-in one -/
def rIsTyX : R2 := fun x y H Q => (∃ m n, x = .ty m ∧ y = .ty n ∧ Q (.bl (decide (m = n))) H) ∨ ∃ C n, x = .ref C ∧ y = .ty n ∧ Q (.bl false) H
theorem op_isTyX : OpR X (compareOp .Is) rIsTyX := by
  intro pins s σ H x y v u Q I rx ry h
  rcases h with h | ⟨C, n, rfl, rfl, q⟩
  · exact op_isTy pins s σ H x y v u Q I rx ry h
  · cases rx
    cases ry
    exact wpAny_is_other rfl (fun z => nomatch z) ⟨.bl false, H, I, rfl, q⟩
end
end Vk
namespace Vk
open PySem PySem.Spec PyProof.Rows L2
/-! # match over plain values: tuples by their length and words, names for the parts -/
abbrev Caught := List (Str × Value)
/-- what a pattern reads of a value: nothing fits, or the parts that get names -/
abbrev TPt := V → Hp → (Option (List V) → Hp → Prop) → Prop
abbrev TPs := List V → Hp → (Option (List V) → Hp → Prop) → Prop
def Fits (X : Cx) (pins : List (Addr × Obj)) (σ : L2.St) (ns : List Str) (Q : Option (List V) → Hp → Prop) (r : Option Caught) (s : Shared) : Prop :=
  ∃ H, Inv X pins σ H s ∧ ((r = none ∧ Q none H) ∨ ∃ bs vs, r = some bs ∧ bs.map (·.1) = ns ∧ Vals vs (bs.map (·.2)) ∧ Q (some vs) H)
structure PPt (X : Cx) (p : Pattern) (ns : List Str) (t : TPt) : Prop where
  run : ∀ (pins : List (Addr × Obj)) (s : Shared) (σ : L2.St) (H : Hp) (v : V) (u : Value) (Q : Option (List V) → Hp → Prop), Inv X pins σ H s → RelV v u → t v H Q →
    wpAny (model X.prog X.w) X.A (matchPattern p X.env u) (Fits X pins σ ns Q) X.xe s
structure PPs (X : Cx) (ps : List Pattern) (ns : List Str) (t : TPs) : Prop where
  run : ∀ (pins : List (Addr × Obj)) (s : Shared) (σ : L2.St) (H : Hp) (vs : List V) (us : List Value) (Q : Option (List V) → Hp → Prop), Inv X pins σ H s → Vals vs us → t vs H Q →
    wpAny (model X.prog X.w) X.A (matchEach ps X.env us) (Fits X pins σ ns Q) X.xe s
structure PB (X : Cx) (ns : List Str) (t : TGs) : Prop where
  run : ∀ (pins : List (Addr × Obj)) (s : Shared) (σ : L2.St) (H : Hp) (vs : List V) (us : List Value) (Q : L2.St → Hp → Prop), Inv X pins σ H s → Vals vs us → t vs σ H Q →
    wpAny (model X.prog X.w) X.A (assignInOrder (ns.map fun n => bindName X.env n) us) (fun _ s' => ∃ σ' H', Inv X pins σ' H' s' ∧ Q σ' H') X.xe s
structure PCs (X : Cx) (cs : List MatchCase) (t : V → TS) : Prop where
  run : ∀ (pins : List (Addr × Obj)) (s : Shared) (σ : L2.St) (H : Hp) (v : V) (u : Value) (first : Bool) (D : Ends), Inv X pins σ H s → RelV v u → t v D σ H →
    wpAny (model X.prog X.w) X.A (matchCases cs X.env u first) (SP X pins D) X.xe s
section
variable {X : Cx}
/-! ## patterns -/
def tPName : TPt := fun v H Q => Q (some [v]) H
def tPAny : TPt := fun _ H Q => Q (some []) H
def tPLit (r : R2) (y : V) : TPt := fun v H Q => r v y H fun b H1 => ∃ c, b = .bl c ∧ Q (if c = true then some [] else none) H1
theorem ppt_name {n : Str} {pos : Pos} : PPt X (.MatchAs none (some n) pos) [n] tPName := by
  refine ⟨fun pins s σ H v u Q I r h => ?_⟩
  exact wpAny_matchPattern_Capture ⟨H, I, .inr ⟨[(n, u)], [v], rfl, rfl, .cons r .nil, h⟩⟩
theorem ppt_any {pos : Pos} : PPt X (.MatchAs none none pos) [] tPAny := by
  refine ⟨fun pins s σ H v u Q I r h => ?_⟩
  exact wpAny_matchPattern_Capture ⟨H, I, .inr ⟨[], [], rfl, rfl, .nil, h⟩⟩
theorem ppt_lit {e : Expr} {y : V} {r : R2} {pos : Pos} (he : PE X e (tC y)) (op : OpR X (compareOp .Eq) r) : PPt X (.MatchValue e pos) [] (tPLit r y) := by
  refine ⟨fun pins s σ H v u Q I rv h => ?_⟩
  refine wpAny_matchPattern_Value (thn (he.run pins s σ H (fun y' H' => y' = y ∧ H' = H) I ⟨rfl, rfl⟩) fun w s1 h1 => ?_)
  obtain ⟨y', H1, I1, r1, rfl, rfl⟩ := h1
  refine thn (op pins s1 σ H1 v y' u w _ I1 rv r1 h) fun b s2 h2 => ?_
  obtain ⟨b', H2, I2, r2, c, rfl, q⟩ := h2
  cases (show b = Value.bool c from r2)
  refine wpAny_truthy_bool ?_
  cases c with
  | true => exact ⟨H2, I2, .inr ⟨[], [], rfl, rfl, .nil, q⟩⟩
  | false => exact ⟨H2, I2, .inl ⟨rfl, q⟩⟩
def tPNil : TPs := fun vs H Q => vs = [] ∧ Q (some []) H
def tPCons (t : TPt) (u : TPs) : TPs := fun vs H Q => ∃ v r, vs = v :: r ∧ t v H fun o H1 => match o with
  | none => Q none H1
  | some ws => u r H1 fun o2 H2 => match o2 with
    | none => Q none H2
    | some zs => Q (some (ws ++ zs)) H2
theorem vals_app {xs ys : List V} {us ws : List Value} (h : Vals xs us) (k : Vals ys ws) : Vals (xs ++ ys) (us ++ ws) := by
  induction h with
  | nil => exact k
  | cons a _ ih => exact .cons a ih
theorem pps_nil : PPs X [] [] tPNil := by
  refine ⟨fun pins s σ H vs us Q I r h => ?_⟩
  obtain ⟨rfl, q⟩ := h
  cases r
  exact wpAny_matchEach_nil ⟨H, I, .inr ⟨[], [], rfl, rfl, .nil, q⟩⟩
theorem pps_cons {p : Pattern} {ps : List Pattern} {ns ms : List Str} {t : TPt} {u : TPs} (h1 : PPt X p ns t) (h2 : PPs X ps ms u) (hp : p.isStar = false := by rfl) : PPs X (p :: ps) (ns ++ ms) (tPCons t u) := by
  refine ⟨fun pins s σ H vs us Q I r h => ?_⟩
  obtain ⟨v, rest, rfl, h⟩ := h
  cases r with
  | cons rv rr =>
    refine wpAny_matchEach_cons (thn (h1.run pins s σ H v _ _ I rv h) fun o s1 ho => ?_) hp
    obtain ⟨H1, I1, ho⟩ := ho
    rcases ho with ⟨rfl, q⟩ | ⟨bs, ws, rfl, e, rw_, q⟩
    · exact ⟨H1, I1, .inl ⟨rfl, q⟩⟩
    · refine thn (h2.run pins s1 σ H1 rest _ _ I1 rr q) fun o2 s2 ho2 => ?_
      obtain ⟨H2, I2, ho2⟩ := ho2
      rcases ho2 with ⟨rfl, q2⟩ | ⟨cs, zs, rfl, e2, rz, q2⟩
      · exact ⟨H2, I2, .inl ⟨rfl, q2⟩⟩
      · exact ⟨H2, I2, .inr ⟨bs ++ cs, ws ++ zs, rfl, by rw [List.map_append, e, e2], by rw [List.map_append]; exact vals_app rw_ rz, q2⟩⟩
/-! ## names -/
theorem pb_nil : PB X [] gNil := by
  refine ⟨fun pins s σ H vs us Q I r h => ?_⟩
  obtain ⟨rfl, q⟩ := h
  cases r
  exact wpAny_assignInOrder_none ⟨σ, H, I, q⟩
theorem pb_cons {i : Nat} {n : Str} {ns : List Str} {t : TGs} (hN : X.N.Nodup) (hi : X.N[i]? = some n) (hx : Loc X.env.scope n) (hf : X.fn n = true ∨ X.env.scope.names.lookup n = some .local := by first | exact .inl rfl | exact .inr rfl | assumption) (h : PB X ns t) :
    PB X (n :: ns) (gCons (gName i) t) := by
  refine ⟨fun pins s σ H vs us Q I r hw => ?_⟩
  obtain ⟨v, rest, rfl, hw⟩ := hw
  cases r with
  | cons rv rr =>
    exact wpAny_assignInOrder_more (wpAny_bindName (store_ok I hN hi hx rv (fun s' I' => h.run pins s' _ H rest _ Q I' rr hw) hf))
/-! ## cases -/
theorem pcs_nil : PCs X [] (fun _ D σ H => D.nx σ H) := by
  refine ⟨fun pins s σ H v u first D I r h => ?_⟩
  exact wpAny_matchCases_nil ⟨σ, H, I, h⟩
/-- case _: -/
theorem pcs_any {body : List Stmt} {rest : List MatchCase} {tb : TS} {pos : Pos} (hb : PSs X body tb) : PCs X (⟨.MatchAs none none pos, none, body⟩ :: rest) (fun _ => tb) := by
  refine ⟨fun pins s σ H v u first D I r h => ?_⟩
  refine wpAny_matchCases_cons (wpAny_matchPattern_Capture ?_)
  exact wpAny_assignInOrder_none (hb.run pins s σ H D I h)
/-- a value that is no tuple, no list -/
def NoSeq : V → Prop
  | .non => True
  | .bl _ => True
  | .int _ => True
  | .str _ => True
  | _ => False
/-- case (p, ..): over a tuple or what is none -/
def tCase (K : PySem.W.Frag) (n : Nat) (tp : TPs) (tg : TGs) (tb : TS) (tr : V → TS) : V → TS := fun v D σ H =>
  (NoSeq v ∧ tr v D σ H) ∨ ∃ a vs, v = .ref a ∧ SqT K H a vs ∧ (¬ vs.length = n → tr v D σ H) ∧
    (vs.length = n → tp vs H fun o H1 => match o with
      | none => tr v D σ H1
      | some ws => tg ws σ H1 fun σ2 H2 => tb D σ2 H2)
theorem pcs_seq {ps : List Pattern} {ns : List Str} {body : List Stmt} {rest : List MatchCase} {tp : TPs} {tg : TGs} {tb : TS} {tr : V → TS} {pos : Pos} {n : Nat} (hc : X.calm = true) (hp : PPs X ps ns tp) (hg : PB X ns tg) (hb : PSs X body tb) (hr : PCs X rest tr)
    (hn : ps.length = n := by rfl) (hstar : ps.findIdx? (·.isStar) = none := by rfl) (hwild : (ps.all fun p => p.isWildcard || (p.isStar && p.names.isEmpty)) = false := by rfl) :
    PCs X (⟨.MatchSequence ps pos, none, body⟩ :: rest) (tCase X.K n tp tg tb tr) := by
  refine ⟨fun pins s σ H v u first D I r h => ?_⟩
  refine wpAny_matchCases_cons ?_
  rcases h with ⟨hv, q⟩ | ⟨a, vs, rfl, hq, miss, hit⟩
  · have flag : ∀ {T : String}, s.TypeIs u T → flagOfType true (.type T) = pure false → wpAny (model X.prog X.w) X.A (matchPattern (.MatchSequence ps pos) X.env u) (fun r s₁ => r = none ∧ s₁ = s) X.xe s := fun ht hf => by
      refine wpAny_matchPattern_Sequence (wpAny_collectionFlag ht hf ?_) hstar hwild
      exact ⟨rfl, rfl⟩
    have go : wpAny (model X.prog X.w) X.A (matchPattern (.MatchSequence ps pos) X.env u) (fun r s₁ => r = none ∧ s₁ = s) X.xe s := by
      cases v with
      | non => cases (show u = Value.none from r); exact flag (T := "NoneType") rfl flag_seq_None
      | bl b => cases (show u = Value.bool b from r); exact flag (T := "bool") rfl flag_seq_bool
      | int i => obtain ⟨t, rfl⟩ := (show ∃ t, u = Value.int i t from r); exact flag (T := "int") rfl flag_seq_int
      | str x => obtain ⟨t, rfl⟩ := (show ∃ t, u = Value.str x t from r); exact flag (T := "str") rfl flag_seq_str
      | byt b => exact hv.elim
      | flt b => exact hv.elim
      | ty b => exact hv.elim
      | ref b => exact hv.elim
    refine thn go fun o s1 ho => ?_
    obtain ⟨rfl, rfl⟩ := ho
    exact hr.run pins s1 σ H v u false D I r q
  · cases r
    obtain ⟨its, rv, ht, hz⟩ := I.tuple hq
    have le : (its.toArray.size : Int) < 2 ^ 63 := by
      have e0 : (sizeLine : Nat) = 16777216 := by decide +kernel
      have := rv.length
      simp only [List.size_toArray]
      omega
    have ln : its.toArray.size = vs.length := by
      rw [List.size_toArray]
      exact rv.length.symm
    by_cases c : vs.length = n
    · refine matchSeq_tuple_hit ht le (by rw [ln, c, hn]) ?_ hstar hwild
      have I0 : Inv X pins σ H { s with toks := s.toks + 1 + 1 } := I.tok _
      have e1 : ps.length = its.toArray.size := by rw [ln, c, hn]
      rw [e1]
      refine unpackItems_tuple (I.ok.hd hc) ht fun h' hx => ?_
      have I1 : Inv X pins σ H { s with toks := s.toks + 1 + 1, heap := h' } := I0.kept (t' := s.toks + 1 + 1) fun b o e => hx b o (Nat.ne_of_lt (Heap.lt_size e)) e
      refine thn (hp.run pins _ σ H vs its _ I1 rv (hit c)) fun o s1 ho => ?_
      obtain ⟨H1, I2, ho⟩ := ho
      rcases ho with ⟨rfl, q⟩ | ⟨bs, ws, rfl, e, rw_, q⟩
      · exact hr.run pins s1 σ H1 (.ref a) _ false D I2 rfl q
      · have em : (bs.map fun (n, _) => bindName X.env n) = ns.map fun n => bindName X.env n := by
          rw [← e, List.map_map]
          rfl
        show wpAny _ _ (assignInOrder (bs.map fun (n, _) => bindName X.env n) (bs.map (·.2))) _ _ _
        rw [em]
        refine thn (hg.run pins s1 σ H1 ws _ _ I2 rw_ q) fun _ s2 h2 => ?_
        obtain ⟨σ2, H2, I3, q2⟩ := h2
        exact hb.run pins s2 σ2 H2 D I3 q2
    · refine matchSeq_tuple_miss ht le (by rw [ln, hn]; exact c) ?_ hstar hwild
      exact hr.run pins _ σ H (.ref a) _ false D (I.tok _) rfl (miss c)
/-- match e: cases -/
def tMatch (te : TE) (tc : V → TS) : TS := fun D σ H => te σ H fun v H1 => tc v D σ H1
theorem ps_match {e : Expr} {cs : List MatchCase} {te : TE} {tc : V → TS} {pos : Pos} (he : PE X e te) (hc : PCs X cs tc) : PS X (.Match e cs pos) (tMatch te tc) := by
  refine ⟨fun pins s σ H D I h => ?_⟩
  refine wpAny_Match (thn (he.run pins s σ H _ I h) fun u s1 h1 => ?_)
  obtain ⟨v, H1, I1, r1, q⟩ := h1
  exact hc.run pins s1 σ H1 v u true D I1 r1 q
end
end Vk
set_option linter.unusedVariables false
namespace Vk
open PySem PySem.Spec PyProof.Rows L2
/-! # The data layer: values as data, objects by a state; what a piece of code asks is a function of both -/
inductive Dv where
  | non
  | bl (b : Bool)
  | int (i : Int)
  | str (x : Str)
  | tup (ds : List Dv)
  | lst (ds : List Dv)
  | scr (ns : List Int)
  | ref (a : Addr)
  | ty (n : String)
mutual
inductive RD (K : PySem.W.Frag) (G : Hp) : V → Dv → Prop
  | non : RD K G .non .non
  | bl (b : Bool) : RD K G (.bl b) (.bl b)
  | int (i : Int) : RD K G (.int i) (.int i)
  | str (x : Str) : RD K G (.str x) (.str x)
  | tup {a : Addr} {vs : List V} {ds : List Dv} : SqT K G a vs → RDs K G vs ds → RD K G (.ref a) (.tup ds)
  | lst {a : Addr} {vs : List V} {ds : List Dv} : G a = some (.lst vs) → RDs K G vs ds → RD K G (.ref a) (.lst ds)
  | scr {a : Addr} {ns : List Int} : SqL K G a (ns.map V.int) → RD K G (.ref a) (.scr ns)
  | ref (a : Addr) : RD K G (.ref a) (.ref a)
  | ty (n : String) : RD K G (.ty n) (.ty n)
inductive RDs (K : PySem.W.Frag) (G : Hp) : List V → List Dv → Prop
  | nil : RDs K G [] []
  | cons {v : V} {d : Dv} {vs : List V} {ds : List Dv} : RD K G v d → RDs K G vs ds → RDs K G (v :: vs) (d :: ds)
end
theorem sqL_same {K : PySem.W.Frag} {G G' : Hp} {a : Addr} {xs : List V} (s : Same G G') (h : SqL K G a xs) : SqL K G' a xs := by
  rcases h with (h | ⟨o, h⟩) | h
  · exact .inl (.inl (s _ _ h))
  · exact .inl (.inr ⟨o, s _ _ h⟩)
  · exact .inr h
theorem sqT_same {K : PySem.W.Frag} {G G' : Hp} {a : Addr} {xs : List V} (s : Same G G') (h : SqT K G a xs) : SqT K G' a xs := (keepT_of s).seq h
mutual
theorem RD.same {K : PySem.W.Frag} {G G' : Hp} (s : Same G G') : ∀ (d : Dv) (v : V), RD K G v d → RD K G' v d
  | .non, _, h => by cases h; exact .non
  | .bl b, _, h => by cases h; exact .bl b
  | .int i, _, h => by cases h; exact .int i
  | .str x, _, h => by cases h; exact .str x
  | .tup ds, _, h => by
    cases h with
    | tup a b => exact .tup (sqT_same s a) (RDs.same s ds _ b)
  | .lst ds, _, h => by
    cases h with
    | lst a b => exact .lst (s _ _ a) (RDs.same s ds _ b)
  | .scr ns, _, h => by
    cases h with
    | scr a => exact .scr (sqL_same s a)
  | .ref a, _, h => by cases h; exact .ref a
  | .ty n, _, h => by cases h; exact .ty n
theorem RDs.same {K : PySem.W.Frag} {G G' : Hp} (s : Same G G') : ∀ (ds : List Dv) (vs : List V), RDs K G vs ds → RDs K G' vs ds
  | [], _, h => by cases h; exact .nil
  | d :: ds, _, h => by
    cases h with
    | cons a b => exact .cons (RD.same s d _ a) (RDs.same s ds _ b)
end
theorem RDs.len {K : PySem.W.Frag} {G : Hp} : ∀ {vs : List V} {ds : List Dv}, RDs K G vs ds → vs.length = ds.length
  | _, _, .nil => rfl
  | _, _, .cons _ b => congrArg Nat.succ (RDs.len b)
theorem RDs.app {K : PySem.W.Frag} {G : Hp} : ∀ {vs ws : List V} {ds es : List Dv}, RDs K G vs ds → RDs K G ws es → RDs K G (vs ++ ws) (ds ++ es)
  | _, _, _, _, .nil, h => h
  | _, _, _, _, .cons a b, h => .cons a (RDs.app b h)
theorem RDs.take {K : PySem.W.Frag} {G : Hp} : ∀ {vs : List V} {ds : List Dv} (n : Nat), RDs K G vs ds → RDs K G (vs.take n) (ds.take n)
  | _, _, 0, _ => .nil
  | _, _, _ + 1, .nil => .nil
  | _, _, n + 1, .cons a b => .cons a (RDs.take n b)
theorem RDs.drop {K : PySem.W.Frag} {G : Hp} : ∀ {vs : List V} {ds : List Dv} (n : Nat), RDs K G vs ds → RDs K G (vs.drop n) (ds.drop n)
  | _, _, 0, h => h
  | _, _, _ + 1, .nil => .nil
  | _, _, n + 1, .cons _ b => RDs.drop n b
theorem RDs.at {K : PySem.W.Frag} {G : Hp} : ∀ {vs : List V} {ds : List Dv} {i : Nat} {d : Dv}, RDs K G vs ds → ds[i]? = some d → ∃ v, vs[i]? = some v ∧ RD K G v d
  | _, _, _, _, .nil, h => by simp at h
  | _, _, 0, _, .cons a _, h => by simp at h; subst h; exact ⟨_, rfl, a⟩
  | _, _, i + 1, _, .cons _ b, h => by
    obtain ⟨v, e, q⟩ := RDs.at (i := i) b (by simpa using h)
    exact ⟨v, by simpa using e, q⟩
theorem RDs.at' {K : PySem.W.Frag} {G : Hp} : ∀ {vs : List V} {ds : List Dv} {i : Nat} {v : V}, RDs K G vs ds → vs[i]? = some v → ∃ d, ds[i]? = some d ∧ RD K G v d
  | _, _, _, _, .nil, h => by simp at h
  | _, _, 0, _, .cons a _, h => by simp at h; subst h; exact ⟨_, rfl, a⟩
  | _, _, i + 1, _, .cons _ b, h => by
    obtain ⟨d, e, q⟩ := RDs.at' (i := i) b (by simpa using h)
    exact ⟨d, by simpa using e, q⟩
theorem RDs.rep {K : PySem.W.Frag} {G : Hp} {vs : List V} {ds : List Dv} (h : RDs K G vs ds) : ∀ n : Nat, RDs K G (List.replicate n vs).flatten (List.replicate n ds).flatten
  | 0 => .nil
  | n + 1 => by
    rw [List.replicate_succ, List.replicate_succ, List.flatten_cons, List.flatten_cons]
    exact RDs.app h (RDs.rep h n)
/-! ## objects that code changes -/
inductive MO where
  | lst (ds : List Dv)
  | dK (kds : List (L2.Key × Dv))
  | ins (C dx : Addr) (fs : List (Str × Dv))
  | own (x : Addr)
abbrev MH := Addr → Option MO
def mup (M : MH) (a : Addr) (o : MO) : MH := fun b => if b = a then some o else M b
def mdel (M : MH) (a : Addr) : MH := fun b => if b = a then none else M b
@[simp] theorem mup_same {M : MH} {a : Addr} {o : MO} : mup M a o a = some o := by unfold mup; rw [if_pos rfl]
theorem mup_ne {M : MH} {a b : Addr} {o : MO} (h : b ≠ a) : mup M a o b = M b := by unfold mup; rw [if_neg h]
@[simp] theorem mup_mup {M : MH} {a : Addr} {o u : MO} : mup (mup M a o) a u = mup M a u := by
  funext b; unfold mup; split <;> rfl
def hid (S : Addr → Bool) (M : MH) (H : Hp) : Hp := fun a => if S a || (M a).isSome then none else H a
inductive RKV {κ : Type} (K : PySem.W.Frag) (G : Hp) : List (κ × V) → List (κ × Dv) → Prop
  | nil : RKV K G [] []
  | cons {k : κ} {v : V} {d : Dv} {kvs : List (κ × V)} {kds : List (κ × Dv)} : RD K G v d → RKV K G kvs kds → RKV K G ((k, v) :: kvs) ((k, d) :: kds)
theorem RKV.same {κ : Type} {K : PySem.W.Frag} {G G' : Hp} (s : Same G G') : ∀ {kvs : List (κ × V)} {kds : List (κ × Dv)}, RKV K G kvs kds → RKV K G' kvs kds
  | _, _, .nil => .nil
  | _, _, .cons a b => .cons (RD.same s _ _ a) (RKV.same s b)
inductive MR (K : PySem.W.Frag) (G : Hp) : MO → HO → Prop
  | lst {ds : List Dv} {vs : List V} : RDs K G vs ds → MR K G (.lst ds) (.lst vs)
  | dK {kds : List (L2.Key × Dv)} {kvs : List (L2.Key × V)} : RKV K G kvs kds → MR K G (.dK kds) (.dK kvs)
  | ins {C dx : Addr} {fs : List (Str × V)} {gs : List (Str × Dv)} : RKV K G fs gs → MR K G (.ins C dx gs) (.ins C dx fs)
  | own (x : Addr) : MR K G (.own x) (.own x)
theorem MR.same {K : PySem.W.Frag} {G G' : Hp} (s : Same G G') {o : MO} {u : HO} (h : MR K G o u) : MR K G' o u := by
  cases h with
  | lst a => exact .lst (RDs.same s _ _ a)
  | dK a => exact .dK (RKV.same s a)
  | ins a => exact .ins (RKV.same s a)
  | own x => exact .own x
structure HR (K : PySem.W.Frag) (S : Addr → Bool) (M : MH) (H : Hp) : Prop where
  obj : ∀ a o, M a = some o → ∃ u, H a = some u ∧ MR K (hid S M H) o u
  apart : ∀ a, S a = true → M a = none ∧ H a ≠ none
structure Gr (S : Addr → Bool) (M : MH) (H : Hp) (M' : MH) (H' : Hp) : Prop where
  same : Same (hid S M H) (hid S M' H')
  hold : ∀ a, S a = true → H' a = H a
theorem Gr.refl {S : Addr → Bool} {M : MH} {H : Hp} : Gr S M H M H := ⟨Same.refl _, fun _ _ => rfl⟩
theorem Gr.trans {S : Addr → Bool} {M M1 M2 : MH} {H H1 H2 : Hp} (a : Gr S M H M1 H1) (b : Gr S M1 H1 M2 H2) : Gr S M H M2 H2 :=
  ⟨a.same.trans b.same, fun c h => (b.hold c h).trans (a.hold c h)⟩
theorem hid_some {S : Addr → Bool} {M : MH} {H : Hp} {a : Addr} {u : HO} (h : hid S M H a = some u) : H a = some u ∧ S a = false ∧ M a = none := by
  unfold hid at h
  split at h
  · cases h
  · rename_i n
    simp only [Bool.or_eq_true, not_or, Bool.not_eq_true] at n
    refine ⟨h, n.1, ?_⟩
    cases e : M a with
    | none => rfl
    | some o => rw [e] at n; exact absurd n.2 (by simp)
theorem hid_of {S : Addr → Bool} {M : MH} {H : Hp} {a : Addr} (h1 : S a = false) (h2 : M a = none) : hid S M H a = H a := by
  unfold hid
  rw [h1, h2]
  rfl
theorem HR.fresh {K : PySem.W.Frag} {S : Addr → Bool} {M : MH} {H : Hp} (h : HR K S M H) {p : Addr} (hp : H p = none) : S p = false ∧ M p = none := by
  constructor
  · cases e : S p with
    | false => rfl
    | true => exact absurd hp (h.apart p e).2
  · cases e : M p with
    | none => rfl
    | some o =>
      obtain ⟨u, z, _⟩ := h.obj p o e
      rw [hp] at z
      cases z
/-- a new thing that does not change -/
theorem HR.new {K : PySem.W.Frag} {S : Addr → Bool} {M : MH} {H : Hp} (h : HR K S M H) {p : Addr} (hp : H p = none) (o : HO) : Gr S M H M (upd H p o) ∧ HR K S M (upd H p o) ∧ hid S M (upd H p o) p = some o := by
  obtain ⟨e1, e2⟩ := h.fresh hp
  have g : Gr S M H M (upd H p o) := by
    refine ⟨fun b u z => ?_, fun a ha => ?_⟩
    · obtain ⟨z1, z2, z3⟩ := hid_some z
      rw [hid_of z2 z3, upd_ne (ne_of_none z1 hp)]
      exact z1
    · exact upd_ne (fun z => by subst z; rw [e1] at ha; cases ha)
  refine ⟨g, ⟨fun a m z => ?_, fun a ha => ?_⟩, by rw [hid_of e1 e2, upd_same]⟩
  · obtain ⟨u, z1, z2⟩ := h.obj a m z
    exact ⟨u, by rw [upd_ne (ne_of_none z1 hp)]; exact z1, z2.same g.same⟩
  · obtain ⟨z1, z2⟩ := h.apart a ha
    exact ⟨z1, by rw [g.hold a ha]; exact z2⟩
/-- a new object that is tracked from now on -/
theorem HR.newM {K : PySem.W.Frag} {S : Addr → Bool} {M : MH} {H : Hp} (h : HR K S M H) {p : Addr} (hp : H p = none) {m : MO} {o : HO} (r : MR K (hid S M H) m o) : Gr S M H (mup M p m) (upd H p o) ∧ HR K S (mup M p m) (upd H p o) := by
  obtain ⟨e1, e2⟩ := h.fresh hp
  have g : Gr S M H (mup M p m) (upd H p o) := by
    refine ⟨fun b u z => ?_, fun a ha => ?_⟩
    · obtain ⟨z1, z2, z3⟩ := hid_some z
      have n := ne_of_none z1 hp
      rw [hid_of z2 (by rw [mup_ne n]; exact z3), upd_ne n]
      exact z1
    · exact upd_ne (fun z => by subst z; rw [e1] at ha; cases ha)
  refine ⟨g, ⟨fun a q z => ?_, fun a ha => ?_⟩⟩
  · by_cases c : a = p
    · subst c
      rw [mup_same] at z
      cases z
      exact ⟨o, upd_same, r.same g.same⟩
    · rw [mup_ne c] at z
      obtain ⟨u, z1, z2⟩ := h.obj a q z
      exact ⟨u, by rw [upd_ne c]; exact z1, z2.same g.same⟩
  · obtain ⟨z1, z2⟩ := h.apart a ha
    have n : a ≠ p := fun z => by subst z; rw [e1] at ha; cases ha
    exact ⟨by rw [mup_ne n]; exact z1, by rw [g.hold a ha]; exact z2⟩
/-- a tracked object is changed -/
theorem HR.put {K : PySem.W.Frag} {S : Addr → Bool} {M : MH} {H : Hp} (h : HR K S M H) {p : Addr} {m0 m : MO} {o : HO} (hp : M p = some m0) (r : MR K (hid S M H) m o) : Gr S M H (mup M p m) (upd H p o) ∧ HR K S (mup M p m) (upd H p o) := by
  have e1 : S p = false := by
    cases e : S p with
    | false => rfl
    | true => have := (h.apart p e).1; rw [hp] at this; cases this
  have same : hid S (mup M p m) (upd H p o) = hid S M H := by
    funext b
    by_cases c : b = p
    · subst c
      unfold hid
      rw [mup_same, hp]
      simp
    · unfold hid
      rw [mup_ne c, upd_ne c]
  have g : Gr S M H (mup M p m) (upd H p o) := by
    refine ⟨by rw [same]; exact Same.refl _, fun a ha => ?_⟩
    exact upd_ne (fun z => by subst z; rw [e1] at ha; cases ha)
  refine ⟨g, ⟨fun a q z => ?_, fun a ha => ?_⟩⟩
  · rw [same]
    by_cases c : a = p
    · subst c
      rw [mup_same] at z
      cases z
      exact ⟨o, upd_same, r⟩
    · rw [mup_ne c] at z
      obtain ⟨u, z1, z2⟩ := h.obj a q z
      exact ⟨u, by rw [upd_ne c]; exact z1, z2⟩
  · obtain ⟨z1, z2⟩ := h.apart a ha
    have n : a ≠ p := fun z => by subst z; rw [e1] at ha; cases ha
    exact ⟨by rw [mup_ne n]; exact z1, by rw [g.hold a ha]; exact z2⟩
/-- a tracked list that does not change any more -/
theorem HR.freeze {K : PySem.W.Frag} {S : Addr → Bool} {M : MH} {H : Hp} (h : HR K S M H) {p : Addr} {ds : List Dv} (hp : M p = some (.lst ds)) : Gr S M H (mdel M p) H ∧ HR K S (mdel M p) H ∧ RD K (hid S (mdel M p) H) (.ref p) (.lst ds) := by
  obtain ⟨u, z1, z2⟩ := h.obj p _ hp
  have e1 : S p = false := by
    cases e : S p with
    | false => rfl
    | true => have := (h.apart p e).1; rw [hp] at this; cases this
  have e2 : mdel M p p = none := by unfold mdel; rw [if_pos rfl]
  have g : Gr S M H (mdel M p) H := by
    refine ⟨fun b w z => ?_, fun _ _ => rfl⟩
    obtain ⟨y1, y2, y3⟩ := hid_some z
    rw [hid_of y2 (by unfold mdel; split; rfl; exact y3)]
    exact y1
  refine ⟨g, ⟨fun a q z => ?_, fun a ha => ?_⟩, ?_⟩
  · have n : M a = some q := by
      unfold mdel at z
      split at z
      · cases z
      · exact z
    obtain ⟨w, y1, y2⟩ := h.obj a q n
    exact ⟨w, y1, y2.same g.same⟩
  · obtain ⟨y1, y2⟩ := h.apart a ha
    exact ⟨by unfold mdel; split; rfl; exact y1, y2⟩
  · cases z2 with
    | lst r => exact .lst (by rw [hid_of e1 e2]; exact z1) (RDs.same g.same _ _ r)
/-! ## what code asks, as functions of the names' data and the state -/
abbrev DEnv := List (Option Dv)
abbrev DK := Dv → MH → Prop
abbrev DE := DEnv → MH → DK → Prop
abbrev DT := DEnv → MH → (Bool → MH → Prop) → Prop
abbrev DA := DEnv → MH → (List Dv → MH → Prop) → Prop
structure DEnds where
  nx : DEnv → MH → Prop
  rt : DK
  bk : DEnv → MH → Prop := fun _ _ => False
  ct : DEnv → MH → Prop := fun _ _ => False
abbrev DS := DEnds → DEnv → MH → Prop
/-- the names have their data -/
structure RN (K : PySem.W.Frag) (G : Hp) (σ : L2.St) (env : DEnv) : Prop where
  len : σ.length = env.length
  at_ : ∀ (i : Nat) (d : Dv), env[i]? = some (some d) → ∃ v, σ[i]? = some (some v) ∧ RD K G v d
theorem RN.same {K : PySem.W.Frag} {G G' : Hp} {σ : L2.St} {env : DEnv} (s : Same G G') (h : RN K G σ env) : RN K G' σ env :=
  ⟨h.len, fun i d e => let ⟨v, a, b⟩ := h.at_ i d e; ⟨v, a, RD.same s _ _ b⟩⟩
theorem RN.set {K : PySem.W.Frag} {G : Hp} {σ : L2.St} {env : DEnv} (h : RN K G σ env) {v : V} {d : Dv} (r : RD K G v d) (i : Nat) : RN K G (σ.set i (some v)) (env.set i (some d)) := by
  refine ⟨by rw [List.length_set, List.length_set, h.len], fun j e hj => ?_⟩
  by_cases c : i = j
  · subst c
    by_cases l : i < env.length
    · rw [List.getElem?_set_self l] at hj
      cases hj
      exact ⟨v, List.getElem?_set_self (by rw [h.len]; exact l), r⟩
    · rw [List.getElem?_eq_none (by simpa using l)] at hj
      cases hj
  · rw [List.getElem?_set_ne c] at hj
    rw [List.getElem?_set_ne c]
    exact h.at_ j e hj
def wipeD (env : DEnv) : List Nat → DEnv
  | [] => env
  | v :: vs => (wipeD env vs).set v none
theorem RN.wipe {K : PySem.W.Frag} {G : Hp} {σ : L2.St} {env : DEnv} (h : RN K G σ env) : ∀ vs : List Nat, RN K G (L2.wipe σ vs) (wipeD env vs)
  | [] => h
  | v :: vs => by
    have z := RN.wipe h vs
    unfold L2.wipe wipeD
    refine ⟨by rw [List.length_set, List.length_set, z.len], fun j e hj => ?_⟩
    by_cases c : v = j
    · subst c
      by_cases l : v < (wipeD env vs).length
      · rw [List.getElem?_set_self l] at hj
        cases hj
      · rw [List.getElem?_eq_none (by simpa using l)] at hj
        cases hj
    · rw [List.getElem?_set_ne c] at hj
      rw [List.getElem?_set_ne c]
      exact z.at_ j e hj
section
variable (K : PySem.W.Frag)
def RE (t : TE) (F : DE) : Prop := ∀ (S : Addr → Bool) (σ : L2.St) (H : Hp) (env : DEnv) (M : MH) (Q : VK) (R : DK), RN K (hid S M H) σ env → HR K S M H → F env M R →
  (∀ d M' v H', R d M' → Gr S M H M' H' → RD K (hid S M' H') v d → HR K S M' H' → Q v H') → t σ H Q
def RT (t : TT) (F : DT) : Prop := ∀ (S : Addr → Bool) (σ : L2.St) (H : Hp) (env : DEnv) (M : MH) (Q : Bool → Hp → Prop) (R : Bool → MH → Prop), RN K (hid S M H) σ env → HR K S M H → F env M R →
  (∀ b M' H', R b M' → Gr S M H M' H' → HR K S M' H' → Q b H') → t σ H Q
def RA (t : TA) (n : Nat) (F : DA) : Prop := ∀ (S : Addr → Bool) (σ : L2.St) (H : Hp) (env : DEnv) (M : MH) (Q : List V → Hp → Prop) (R : List Dv → MH → Prop), RN K (hid S M H) σ env → HR K S M H → F env M R →
  (∀ ds M' vs H', R ds M' → ds.length = n → Gr S M H M' H' → RDs K (hid S M' H') vs ds → HR K S M' H' → Q vs H') → t σ H Q
structure Cnv (S : Addr → Bool) (M : MH) (H : Hp) (E : DEnds) (D : Ends) : Prop where
  nx : ∀ env' M' σ' H', E.nx env' M' → Gr S M H M' H' → RN K (hid S M' H') σ' env' → HR K S M' H' → D.nx σ' H'
  bk : ∀ env' M' σ' H', E.bk env' M' → Gr S M H M' H' → RN K (hid S M' H') σ' env' → HR K S M' H' → D.bk σ' H'
  ct : ∀ env' M' σ' H', E.ct env' M' → Gr S M H M' H' → RN K (hid S M' H') σ' env' → HR K S M' H' → D.ct σ' H'
  rt : ∀ d M' v H', E.rt d M' → Gr S M H M' H' → RD K (hid S M' H') v d → HR K S M' H' → D.rt v H'
def RS (t : TS) (F : DS) : Prop := ∀ (S : Addr → Bool) (σ : L2.St) (H : Hp) (env : DEnv) (M : MH) (D : Ends) (E : DEnds), RN K (hid S M H) σ env → HR K S M H → F E env M → Cnv K S M H E D → t D σ H
end
theorem Cnv.from {K : PySem.W.Frag} {S : Addr → Bool} {M M1 : MH} {H H1 : Hp} {E : DEnds} {D : Ends} (c : Cnv K S M H E D) (g : Gr S M H M1 H1) : Cnv K S M1 H1 E D :=
  ⟨fun e m s h a b => c.nx e m s h a (g.trans b), fun e m s h a b => c.bk e m s h a (g.trans b), fun e m s h a b => c.ct e m s h a (g.trans b), fun e m s h a b => c.rt e m s h a (g.trans b)⟩
/-- judgements: a piece of syntax, its reading, and what it asks -/
structure Ex (X : Cx) (e : Expr) (t : TE) (F : DE) : Prop where
  p : PE X e t
  r : RE X.K t F
structure Ts (X : Cx) (e : Expr) (t : TT) (F : DT) : Prop where
  p : PT X e t
  r : RT X.K t F
structure Tw (X : Cx) (e : Expr) (t : TT) (F : DT) : Prop where
  p : PW X e t
  r : RT X.K t F
structure As (X : Cx) (es : List Expr) (t : TA) (n : Nat) (F : DA) : Prop where
  p : PA X es t
  r : RA X.K t n F
structure Sm (X : Cx) (st : Stmt) (t : TS) (F : DS) : Prop where
  p : PS X st t
  r : RS X.K t F
structure Ss (X : Cx) (st : List Stmt) (t : TS) (F : DS) : Prop where
  p : PSs X st t
  r : RS X.K t F
end Vk
set_option linter.unusedVariables false
namespace Vk
open PySem PySem.Spec PyProof.Rows L2
/-! # The data layer: expressions -/
section
variable {X : Cx} {a b c e : Expr} {ta tb tc te : TE} {A B C F : DE} {pos : Pos}
def dV (i : Nat) : DE := fun env M Q => match env[i]? with | some (some d) => Q d M | _ => False
def dC (d : Dv) : DE := fun _ M Q => Q d M
theorem RE.var {K : PySem.W.Frag} (i : Nat) : RE K (tVar i) (dV i) := by
  intro S σ H env M Q R rn hr f q
  unfold dV at f
  split at f
  · rename_i d e
    obtain ⟨v, ev, rd⟩ := rn.at_ i d e
    exact ⟨v, ev, q d M v H f Gr.refl rd hr⟩
  · exact f.elim
theorem RE.con {K : PySem.W.Frag} {v : V} {d : Dv} (h : ∀ G, RD K G v d) : RE K (tC v) (dC d) := by
  intro S σ H env M Q R rn hr f q
  exact q d M v H f Gr.refl (h _) hr
theorem dv (i : Nat) {x : Str} {pos : Pos} (hN : X.N[i]? = some x := by rfl) (hv : Vis X.env.scope x := by first | exact Or.inl rfl | exact Or.inr (Or.inl rfl) | exact Or.inr (Or.inr rfl)) (hd : (x == ("__debug__" : Str)) = false := by decide)
    (hcd : (x == ("__classdict__" : Str)) = false := by decide) : Ex X (.Name x pos) (tVar i) (dV i) := ⟨pv i hN hv hd hcd, RE.var i⟩
theorem d_int {i : Int} {j pos} : Ex X (.Constant (.int i) j pos) (tC (.int i)) (dC (.int i)) := ⟨pe_int, RE.con fun _ => .int i⟩
theorem d_bl {i : Bool} {j pos} : Ex X (.Constant (.bool i) j pos) (tC (.bl i)) (dC (.bl i)) := ⟨pe_bl, RE.con fun _ => .bl i⟩
theorem d_non {j pos} : Ex X (.Constant .none j pos) (tC .non) (dC .non) := ⟨pe_non, RE.con fun _ => .non⟩
theorem d_str {x : Str} {j pos} : Ex X (.Constant (.str x) j pos) (tC (.str x)) (dC (.str x)) := ⟨pe_str, RE.con fun _ => .str x⟩
/-- a name of the module: v by d -/
theorem d_glob {x : Str} {v : V} {d : Dv} {u : Value} {pos : Pos} (hg : Gl X x) (hm : X.mg x = some u) (r : RelV v u) (h : ∀ G, RD X.K G v d) (hd : (x == ("__debug__" : Str)) = false := by decide) : Ex X (.Name x pos) (tC v) (dC d) :=
  ⟨pe_glob hg hm r hd, RE.con h⟩
/-! ## operators -/
abbrev DO := Dv → Dv → MH → DK → Prop
def RO (K : PySem.W.Frag) (r : R2) (g : DO) : Prop := ∀ (S : Addr → Bool) (H : Hp) (x y : V) (dx dy : Dv) (M : MH) (Q : VK) (R : DK), RD K (hid S M H) x dx → RD K (hid S M H) y dy → HR K S M H → g dx dy M R →
  (∀ d M' v H', R d M' → Gr S M H M' H' → RD K (hid S M' H') v d → HR K S M' H' → Q v H') → r x y H Q
structure Op (X : Cx) (f : Value → Value → Sem Value) (r : R2) (g : DO) : Prop where
  p : OpR X f r
  r : RO X.K r g
def dOp (g : DO) (A B : DE) : DE := fun env M Q => A env M fun x M1 => B env M1 fun y M2 => g x y M2 Q
theorem RE.op {K : PySem.W.Frag} {r : R2} {g : DO} (o : RO K r g) (h1 : RE K ta A) (h2 : RE K tb B) : RE K (tOp r ta tb) (dOp g A B) := by
  intro S σ H env M Q R rn hr f q
  refine h1 S σ H env M _ _ rn hr f fun x M1 v H1 f1 g1 r1 hr1 => ?_
  refine h2 S σ H1 env M1 _ _ (rn.same g1.same) hr1 f1 fun y M2 w H2 f2 g2 r2 hr2 => ?_
  exact o S H2 v w x y M2 Q R (RD.same g2.same _ _ r1) r2 hr2 f2 fun d M' z H' h k rd hr' => q d M' z H' h ((g1.trans g2).trans k) rd hr'
theorem d_op {op : Operator} {r : R2} {g : DO} (o : Op X (binaryOp op) r g) (h1 : Ex X a ta A) (h2 : Ex X b tb B) : Ex X (.BinOp a op b pos) (tOp r ta tb) (dOp g A B) := ⟨pe_op o.p h1.p h2.p, RE.op o.r h1.r h2.r⟩
theorem d_cmp {op : CmpOp} {r : R2} {g : DO} (o : Op X (compareOp op) r g) (h1 : Ex X a ta A) (h2 : Ex X b tb B) (hm : behindInMarks op b = false) : Ex X (.Compare a [op] [b] pos) (tOp r ta tb) (dOp g A B) := ⟨pe_cmpR o.p h1.p h2.p hm, RE.op o.r h1.r h2.r⟩
theorem opr_or {f : Value → Value → Sem Value} {r u : R2} (h1 : OpR X f r) (h2 : OpR X f u) : OpR X f (fun x y H Q => r x y H Q ∨ u x y H Q) := by
  intro pins s σ H x y v w Q I rx ry h
  rcases h with h | h
  · exact h1 pins s σ H x y v w Q I rx ry h
  · exact h2 pins s σ H x y v w Q I rx ry h
/-- an operator of two ints -/
def gI (C : Int → Int → Prop) (k : Int → Int → Dv) : DO := fun x y M Q => match x, y with | .int i, .int j => C i j ∧ Q (k i j) M | _, _ => False
theorem RO.i {K : PySem.W.Frag} {C : Int → Int → Prop} {k : Int → Int → Dv} {kv : Int → Int → V} (h : ∀ i j G, RD K G (kv i j) (k i j)) : RO K (rI C kv) (gI C k) := by
  intro S H x y dx dy M Q R rx ry hr f q
  unfold gI at f
  split at f
  · cases rx
    cases ry
    exact ⟨_, _, rfl, rfl, f.1, q _ M _ H f.2 Gr.refl (h _ _ _) hr⟩
  · exact f.elim
theorem rI0_of {f : Value → Value → Sem Value} {k : Int → Int → V} (h : OpR X f (rI0 k)) : OpR X f (rI (fun _ _ => True) k) := by
  intro pins s σ H x y v u Q I rx ry z
  obtain ⟨i, j, e1, e2, _, q⟩ := z
  exact h pins s σ H x y v u Q I rx ry ⟨i, j, e1, e2, q⟩
def gMinus : DO := fun x y M Q => match x, y with | .int i, .int j => Q (.int (i - j)) M | _, _ => False
theorem o_minus : Op X (binaryOp .Sub) (rI0 fun i j => .int (i - j)) gMinus := by
  refine ⟨op_sub, ?_⟩
  intro S H x y dx dy M Q R rx ry hr f q
  unfold gMinus at f
  split at f
  · cases rx
    cases ry
    exact ⟨_, _, rfl, rfl, q _ M _ H f Gr.refl (.int _) hr⟩
  · exact f.elim
theorem o_mod : Op X (binaryOp .Mod) (rI (fun _ j => 0 < j) fun i j => .int (i % j)) (gI (fun _ j => 0 < j) fun i j => .int (i % j)) := ⟨op_mod, RO.i fun _ _ _ => .int _⟩
theorem o_fdiv : Op X (binaryOp .FloorDiv) (rI CDiv fun i j => .int (i / j)) (gI CDiv fun i j => .int (i / j)) := ⟨op_fdiv, RO.i fun _ _ _ => .int _⟩
theorem o_pow : Op X (binaryOp .Pow) (rI CPow fun i j => .int (i ^ j.toNat)) (gI CPow fun i j => .int (i ^ j.toNat)) := ⟨op_pow, RO.i fun _ _ _ => .int _⟩
theorem o_mul : Op X (binaryOp .Mult) (rI CMul fun i j => .int (i * j)) (gI CMul fun i j => .int (i * j)) := ⟨op_mul, RO.i fun _ _ _ => .int _⟩
/-! ### + -/
def gAdd : DO := fun x y M Q => match x, y with
  | .int i, .int j => Q (.int (i + j)) M
  | .str i, .str j => i.length + j.length ≤ sizeLine ∧ Q (.str (i ++ j)) M
  | .lst i, .lst j => i.length + j.length ≤ sizeLine ∧ Q (.lst (i ++ j)) M
  | .tup i, .tup j => i.length + j.length ≤ sizeLine ∧ Q (.tup (i ++ j)) M
  | _, _ => False
def rAddA (K : PySem.W.Frag) : R2 := fun x y H Q => (rI0 fun i j => .int (i + j)) x y H Q ∨ (∃ i j, x = .str i ∧ y = .str j ∧ i.length + j.length ≤ sizeLine ∧ Q (.str (i ++ j)) H) ∨ rCat x y H Q ∨ rCatA K x y H Q
theorem RD.newT {K : PySem.W.Frag} {S : Addr → Bool} {M : MH} {H : Hp} (hr : HR K S M H) {p : Addr} (hp : H p = none) {vs : List V} {ds : List Dv} (h : RDs K (hid S M H) vs ds) :
    Gr S M H M (upd H p (.tup vs)) ∧ HR K S M (upd H p (.tup vs)) ∧ RD K (hid S M (upd H p (.tup vs))) (.ref p) (.tup ds) := by
  obtain ⟨g, hr', at_⟩ := hr.new hp (.tup vs)
  exact ⟨g, hr', .tup (.inl (.inl at_)) (RDs.same g.same _ _ h)⟩
theorem RD.newL {K : PySem.W.Frag} {S : Addr → Bool} {M : MH} {H : Hp} (hr : HR K S M H) {p : Addr} (hp : H p = none) {vs : List V} {ds : List Dv} (h : RDs K (hid S M H) vs ds) :
    Gr S M H M (upd H p (.lst vs)) ∧ HR K S M (upd H p (.lst vs)) ∧ RD K (hid S M (upd H p (.lst vs))) (.ref p) (.lst ds) := by
  obtain ⟨g, hr', at_⟩ := hr.new hp (.lst vs)
  exact ⟨g, hr', .lst at_ (RDs.same g.same _ _ h)⟩
/-- from what does not change to what stands -/
theorem sqT_hid {K : PySem.W.Frag} {S : Addr → Bool} {M : MH} {H : Hp} {a : Addr} {vs : List V} (h : SqT K (hid S M H) a vs) : SqT K H a vs := by
  rcases h with (h | ⟨o, h⟩) | h
  · exact .inl (.inl (hid_some h).1)
  · exact .inl (.inr ⟨o, (hid_some h).1⟩)
  · exact .inr h
theorem sqL_hid {K : PySem.W.Frag} {S : Addr → Bool} {M : MH} {H : Hp} {a : Addr} {vs : List V} (h : SqL K (hid S M H) a vs) : SqL K H a vs := by
  rcases h with (h | ⟨o, h⟩) | h
  · exact .inl (.inl (hid_some h).1)
  · exact .inl (.inr ⟨o, (hid_some h).1⟩)
  · exact .inr h
theorem RDs.isNil {K : PySem.W.Frag} {G : Hp} {vs : List V} {ds : List Dv} (h : RDs K G vs ds) : vs = [] ↔ ds = [] := by
  cases h with
  | nil => simp
  | cons _ _ => simp
theorem o_add : Op X (binaryOp .Add) (rAddA X.K) gAdd := by
  refine ⟨opr_or op_add (opr_or op_add_str (opr_or op_cat op_catA)), ?_⟩
  intro S H x y dx dy M Q R rx ry hr f q
  unfold gAdd at f
  split at f
  · cases rx
    cases ry
    exact .inl ⟨_, _, rfl, rfl, q _ M _ H f Gr.refl (.int _) hr⟩
  · cases rx
    cases ry
    exact .inr (.inl ⟨_, _, rfl, rfl, f.1, q _ M _ H f.2 Gr.refl (.str _) hr⟩)
  · cases rx with
    | lst ha ra =>
      cases ry with
      | lst hb rb =>
        refine .inr (.inr (.inl ⟨_, _, _, _, rfl, rfl, (hid_some ha).1, (hid_some hb).1, by rw [ra.len, rb.len]; exact f.1, fun p hp => ?_⟩))
        obtain ⟨g, hr', rd⟩ := RD.newL hr hp (ra.app rb)
        exact q _ M _ _ f.2 g rd hr'
  · cases rx with
    | tup ha ra =>
      cases ry with
      | tup hb rb =>
        refine .inr (.inr (.inr ⟨_, _, _, _, rfl, rfl, sqT_hid ha, sqT_hid hb, by rw [ra.len, rb.len]; exact f.1, fun z => ?_, fun _ z => ?_, fun _ _ p hp => ?_⟩))
        · have e := ra.isNil.mp z
          subst e
          exact q _ M _ H f.2 Gr.refl (.tup hb (by rw [List.nil_append]; exact rb)) hr
        · have e := rb.isNil.mp z
          subst e
          exact q _ M _ H f.2 Gr.refl (.tup ha (by rw [List.append_nil]; exact ra)) hr
        · obtain ⟨g, hr', rd⟩ := RD.newT hr hp (ra.app rb)
          exact q _ M _ _ f.2 g rd hr'
  · exact f.elim
/-! ### comparisons -/
def gLt : DO := fun x y M Q => match x, y with
  | .int i, .int j => Q (.bl (decide (i < j))) M
  | .str i, .str j => Q (.bl (decide (i.cps.toList < j.cps.toList))) M
  | _, _ => False
def gLe : DO := fun x y M Q => match x, y with
  | .int i, .int j => Q (.bl (decide (i ≤ j))) M
  | .str i, .str j => Q (.bl (!decide (j.cps.toList < i.cps.toList))) M
  | _, _ => False
abbrev rSS (k : Str → Str → Bool) : R2 := fun x y H Q => ∃ i j, x = .str i ∧ y = .str j ∧ Q (.bl (k i j)) H
abbrev rIS (k1 : Int → Int → Bool) (k2 : Str → Str → Bool) : R2 := fun x y H Q => rI0 (fun i j => .bl (k1 i j)) x y H Q ∨ rSS k2 x y H Q
theorem RO.is {K : PySem.W.Frag} {k1 : Int → Int → Bool} {k2 : Str → Str → Bool} {g : DO}
    (hg : ∀ x y M Q, g x y M Q → (∃ i j, x = .int i ∧ y = .int j ∧ Q (.bl (k1 i j)) M) ∨ ∃ i j, x = .str i ∧ y = .str j ∧ Q (.bl (k2 i j)) M) : RO K (rIS k1 k2) g := by
  intro S H x y dx dy M Q R rx ry hr f q
  rcases hg _ _ _ _ f with ⟨i, j, rfl, rfl, f2⟩ | ⟨i, j, rfl, rfl, f2⟩
  · cases rx
    cases ry
    exact .inl ⟨_, _, rfl, rfl, q _ M _ H f2 Gr.refl (.bl _) hr⟩
  · cases rx
    cases ry
    exact .inr ⟨_, _, rfl, rfl, q _ M _ H f2 Gr.refl (.bl _) hr⟩
theorem o_lt : Op X (compareOp .Lt) (rIS (fun i j => decide (i < j)) fun i j => decide (i.cps.toList < j.cps.toList)) gLt := by
  refine ⟨opr_or op_lt op_lt_str, RO.is fun x y M Q f => ?_⟩
  unfold gLt at f
  split at f
  · exact .inl ⟨_, _, rfl, rfl, f⟩
  · exact .inr ⟨_, _, rfl, rfl, f⟩
  · exact f.elim
theorem o_le : Op X (compareOp .LtE) (rIS (fun i j => decide (i ≤ j)) fun i j => !decide (j.cps.toList < i.cps.toList)) gLe := by
  refine ⟨opr_or op_le op_le_str, RO.is fun x y M Q f => ?_⟩
  unfold gLe at f
  split at f
  · exact .inl ⟨_, _, rfl, rfl, f⟩
  · exact .inr ⟨_, _, rfl, rfl, f⟩
  · exact f.elim
def gB (k : Int → Int → Bool) : DO := fun x y M Q => match x, y with | .int i, .int j => Q (.bl (k i j)) M | _, _ => False
theorem RO.bb {K : PySem.W.Frag} {k : Int → Int → Bool} : RO K (rI0 fun i j => .bl (k i j)) (gB k) := by
  intro S H x y dx dy M Q R rx ry hr f q
  unfold gB at f
  split at f
  · cases rx
    cases ry
    exact ⟨_, _, rfl, rfl, q _ M _ H f Gr.refl (.bl _) hr⟩
  · exact f.elim
theorem o_gt : Op X (compareOp .Gt) (rI0 fun i j => .bl (decide (i > j))) (gB fun i j => decide (i > j)) := ⟨op_gt, RO.bb⟩
theorem o_ge : Op X (compareOp .GtE) (rI0 fun i j => .bl (decide (i ≥ j))) (gB fun i j => decide (i ≥ j)) := ⟨op_ge, RO.bb⟩
end
end Vk
set_option linter.unusedVariables false
namespace Vk
open PySem PySem.Spec PyProof.Rows L2
/-! # The data layer: tests, logic, displays, slices, places, calls -/
section
variable {X : Cx} {a b c e : Expr} {es : List Expr} {ta tb tc te : TE} {ti tj : TT} {tt : TA} {n : Nat} {A B C F : DE} {I J : DT} {G : DA} {pos : Pos} {r r' : R2} {g g' : DO}
/-! ## chains -/
def dChain (g g' : DO) (A B C : DE) : DE := fun env M Q => A env M fun x M1 => B env M1 fun y M2 => g x y M2 fun z M3 => match z with
  | .bl k => if k = true then C env M3 fun w M4 => g' y w M4 Q else Q (.bl false) M3
  | _ => False
theorem RE.chain {K : PySem.W.Frag} (o : RO K r g) (o' : RO K r' g') (h1 : RE K ta A) (h2 : RE K tb B) (h3 : RE K tc C) : RE K (tChain r r' ta tb tc) (dChain g g' A B C) := by
  intro S σ H env M Q R rn hr f q
  refine h1 S σ H env M _ _ rn hr f fun x M1 v H1 f1 g1 r1 hr1 => ?_
  refine h2 S σ H1 env M1 _ _ (rn.same g1.same) hr1 f1 fun y M2 w H2 f2 g2 r2 hr2 => ?_
  refine o S H2 v w x y M2 _ _ (RD.same g2.same _ _ r1) r2 hr2 f2 fun d M3 z H3 f3 g3 r3 hr3 => ?_
  split at f3
  · cases r3
    refine ⟨_, rfl, ?_⟩
    split at f3
    · rename_i k
      rw [if_pos k]
      refine h3 S σ H3 env M3 _ _ (rn.same ((g1.trans g2).trans g3).same) hr3 f3 fun u M4 y' H4 f4 g4 r4 hr4 => ?_
      exact o' S H4 w y' y u M4 Q R (RD.same (g3.trans g4).same _ _ r2) r4 hr4 f4 fun d' M' z' H' h k rd hr' => q d' M' z' H' h (((g1.trans g2).trans (g3.trans g4)).trans k) rd hr'
    · rename_i k
      rw [if_neg k]
      exact q _ M3 _ H3 f3 ((g1.trans g2).trans g3) (.bl _) hr3
  · exact f3.elim
theorem d_chain {op op' : CmpOp} (o : Op X (compareOp op) r g) (o' : Op X (compareOp op') r' g') (h1 : Ex X a ta A) (h2 : Ex X b tb B) (h3 : Ex X c tc C) (hm : lastMarks [op, op'] [b, c] = false := by with_unfolding_all rfl) :
    Ex X (.Compare a [op, op'] [b, c] pos) (tChain r r' ta tb tc) (dChain g g' A B C) := ⟨pe_chain o.p o'.p h1.p h2.p h3.p hm, RE.chain o.r o'.r h1.r h2.r h3.r⟩
/-! ## tests -/
def dB (A : DE) : DT := fun env M Q => A env M fun x M1 => match x with | .bl k => Q k M1 | _ => False
theorem RT.val {K : PySem.W.Frag} (h : RE K ta A) : RT K (tB ta) (dB A) := by
  intro S σ H env M Q R rn hr f q
  refine h S σ H env M _ _ rn hr f fun x M1 v H1 f1 g1 r1 hr1 => ?_
  split at f1
  · cases r1
    exact ⟨_, rfl, q _ M1 H1 f1 g1 hr1⟩
  · exact f1.elim
theorem t_val {e : Expr} (h : Ex X e te F) (he : ∀ whole, isTrue e X.env whole = (do let v ← whole; standAt e.pos; holding [v] (truthy v)) := by intro _; rfl) : Ts X e (tB te) (dB F) := ⟨pt_val h.p he, RT.val h.r⟩
theorem t_cmp {op : CmpOp} (o : Op X (compareOp op) r g) (h1 : Ex X a ta A) (h2 : Ex X b tb B) (hm : behindInMarks op b = false) : Ts X (.Compare a [op] [b] pos) (tTest (tOp r ta tb)) (dB (dOp g A B)) := ⟨pt_cmpR o.p h1.p h2.p hm, RT.val (RE.op o.r h1.r h2.r)⟩
theorem t_chain {op op' : CmpOp} (o : Op X (compareOp op) r g) (o' : Op X (compareOp op') r' g') (h1 : Ex X a ta A) (h2 : Ex X b tb B) (h3 : Ex X c tc C) (hm : lastMarks [op, op'] [b, c] = false := by with_unfolding_all rfl) :
    Ts X (.Compare a [op, op'] [b, c] pos) (tTest (tChain r r' ta tb tc)) (dB (dChain g g' A B C)) := ⟨pt_chain o.p o'.p h1.p h2.p h3.p hm, RT.val (RE.chain o.r o'.r h1.r h2.r h3.r)⟩
/-- the truth of a value -/
def dTru (A : DE) : DT := fun env M Q => A env M fun x M1 => match x with
  | .non => Q false M1
  | .bl b => Q b M1
  | .int i => Q (i != 0) M1
  | .str y => y.length ≤ sizeLine ∧ Q ((y.length : Int) != 0) M1
  | .tup ds => Q (!ds.isEmpty) M1
  | .lst ds => Q (!ds.isEmpty) M1
  | .scr ns => Q (!ns.isEmpty) M1
  | .ref p => match M1 p with
    | some (.lst ds) => Q (!ds.isEmpty) M1
    | _ => False
  | _ => False
theorem RDs.isEmpty {K : PySem.W.Frag} {G : Hp} {vs : List V} {ds : List Dv} (h : RDs K G vs ds) : vs.isEmpty = ds.isEmpty := by cases h <;> rfl
theorem t_truth (h : Ex X a ta A) (he : ∀ whole, isTrue a X.env whole = (do let v ← whole; standAt a.pos; holding [v] (truthy v)) := by intro _; rfl) :
    Ts X a (fun σ H Q => ta σ H fun x H' => ∃ k, TruV X.K x H' k ∧ Q k H') (dTru A) := by
  refine ⟨pt_truth h.p he, ?_⟩
  intro S σ H env M Q R rn hr f q
  refine h.r S σ H env M _ _ rn hr f fun x M1 v H1 f1 g1 r1 hr1 => ?_
  split at f1
  · cases r1; exact ⟨_, rfl, q _ M1 H1 f1 g1 hr1⟩
  · cases r1; exact ⟨_, rfl, q _ M1 H1 f1 g1 hr1⟩
  · cases r1; exact ⟨_, rfl, q _ M1 H1 f1 g1 hr1⟩
  · cases r1; exact ⟨_, ⟨f1.1, rfl⟩, q _ M1 H1 f1.2 g1 hr1⟩
  · cases r1 with
    | tup ha ra =>
      rw [← ra.isEmpty] at f1
      exact ⟨_, .inr (.inl ⟨_, sqT_hid ha, rfl⟩), q _ M1 H1 f1 g1 hr1⟩
  · cases r1 with
    | lst ha ra =>
      rw [← ra.isEmpty] at f1
      exact ⟨_, .inl ⟨_, SqL.of (hid_some ha).1, rfl⟩, q _ M1 H1 f1 g1 hr1⟩
  · cases r1 with
    | scr ha =>
      refine ⟨_, .inl ⟨_, sqL_hid ha, rfl⟩, q _ M1 H1 ?_ g1 hr1⟩
      rw [List.isEmpty_map]
      exact f1
  · cases r1
    split at f1
    · rename_i p _ ds e
      obtain ⟨u, z1, z2⟩ := hr1.obj _ _ e
      cases z2 with
      | lst ra =>
        rw [← ra.isEmpty] at f1
        exact ⟨_, .inl ⟨_, SqL.of z1, rfl⟩, q _ M1 H1 f1 g1 hr1⟩
    · exact f1.elim
  · exact f1.elim
def dNotT (I : DT) : DT := fun env M Q => I env M fun k M1 => Q (!k) M1
theorem t_not (h : Ts X a ti I) : Ts X (.UnaryOp .Not a pos) (tNot ti) (dNotT I) := by
  refine ⟨pt_not h.p, ?_⟩
  intro S σ H env M Q R rn hr f q
  exact h.r S σ H env M _ _ rn hr f fun k M1 H1 f1 g1 hr1 => q _ M1 H1 f1 g1 hr1
def dAndT (I J : DT) : DT := fun env M Q => I env M fun k M1 => if k = true then J env M1 Q else Q false M1
def dOrT (I J : DT) : DT := fun env M Q => I env M fun k M1 => if k = true then Q true M1 else J env M1 Q
theorem w_and {rest : List Expr} (h1 : Ts X a ti I) (h2 : Tw X (.BoolOp .And (b :: rest) pos) tj J) : Tw X (.BoolOp .And (a :: b :: rest) pos) (tAnd ti tj) (dAndT I J) := by
  refine ⟨pw_and h1.p h2.p, ?_⟩
  intro S σ H env M Q R rn hr f q
  refine h1.r S σ H env M _ _ rn hr f fun k M1 H1 f1 g1 hr1 => ?_
  split at f1
  · rename_i e
    rw [if_pos e]
    exact h2.r S σ H1 env M1 Q R (rn.same g1.same) hr1 f1 fun d M' H' h k hr' => q d M' H' h (g1.trans k) hr'
  · rename_i e
    rw [if_neg e]
    exact q _ M1 H1 f1 g1 hr1
theorem w_or {rest : List Expr} (h1 : Ts X a ti I) (h2 : Tw X (.BoolOp .Or (b :: rest) pos) tj J) : Tw X (.BoolOp .Or (a :: b :: rest) pos) (tOr ti tj) (dOrT I J) := by
  refine ⟨pw_or h1.p h2.p, ?_⟩
  intro S σ H env M Q R rn hr f q
  refine h1.r S σ H env M _ _ rn hr f fun k M1 H1 f1 g1 hr1 => ?_
  split at f1
  · rename_i e
    rw [if_pos e]
    exact q _ M1 H1 f1 g1 hr1
  · rename_i e
    rw [if_neg e]
    exact h2.r S σ H1 env M1 Q R (rn.same g1.same) hr1 f1 fun d M' H' h k hr' => q d M' H' h (g1.trans k) hr'
theorem w_and1 (h : Ts X a ti I) : Tw X (.BoolOp .And [a] pos) ti I := ⟨pw_and1 h.p, h.r⟩
theorem w_or1 (h : Ts X a ti I) : Tw X (.BoolOp .Or [a] pos) ti I := ⟨pw_or1 h.p, h.r⟩
theorem Tw.ts (h : Tw X a ti I) : Ts X a ti I := ⟨PW.pt h.p, h.r⟩
/-! ## logic as values -/
def dAnd (A B : DE) : DE := fun env M Q => A env M fun x M1 => match x with | .bl k => if k = true then B env M1 Q else Q (.bl false) M1 | _ => False
def dOr (A B : DE) : DE := fun env M Q => A env M fun x M1 => match x with | .bl k => if k = true then Q (.bl true) M1 else B env M1 Q | _ => False
def dNot (A : DE) : DE := fun env M Q => A env M fun x M1 => match x with | .bl k => Q (.bl (!k)) M1 | _ => False
theorem d_and {rest : List Expr} (h1 : Ex X a ta A) (h2 : Ex X (.BoolOp .And (b :: rest) pos) tb B) : Ex X (.BoolOp .And (a :: b :: rest) pos) (tAndV ta tb) (dAnd A B) := by
  refine ⟨pe_and h1.p h2.p, ?_⟩
  intro S σ H env M Q R rn hr f q
  refine h1.r S σ H env M _ _ rn hr f fun x M1 v H1 f1 g1 r1 hr1 => ?_
  split at f1
  · cases r1
    refine ⟨_, rfl, ?_⟩
    split at f1
    · rename_i e
      rw [if_pos e]
      exact h2.r S σ H1 env M1 Q R (rn.same g1.same) hr1 f1 fun d M' v H' h k rd hr' => q d M' v H' h (g1.trans k) rd hr'
    · rename_i e
      rw [if_neg e]
      exact q _ M1 _ H1 f1 g1 (.bl _) hr1
  · exact f1.elim
theorem d_or {rest : List Expr} (h1 : Ex X a ta A) (h2 : Ex X (.BoolOp .Or (b :: rest) pos) tb B) : Ex X (.BoolOp .Or (a :: b :: rest) pos) (tOrV ta tb) (dOr A B) := by
  refine ⟨pe_or h1.p h2.p, ?_⟩
  intro S σ H env M Q R rn hr f q
  refine h1.r S σ H env M _ _ rn hr f fun x M1 v H1 f1 g1 r1 hr1 => ?_
  split at f1
  · cases r1
    refine ⟨_, rfl, ?_⟩
    split at f1
    · rename_i e
      rw [if_pos e]
      exact q _ M1 _ H1 f1 g1 (.bl _) hr1
    · rename_i e
      rw [if_neg e]
      exact h2.r S σ H1 env M1 Q R (rn.same g1.same) hr1 f1 fun d M' v H' h k rd hr' => q d M' v H' h (g1.trans k) rd hr'
  · exact f1.elim
theorem d_one {op : BoolOp} (h : Ex X a ta A) : Ex X (.BoolOp op [a] pos) ta A := ⟨pe_one h.p, h.r⟩
theorem d_not (h : Ex X a ta A) : Ex X (.UnaryOp .Not a pos) (tNotV ta) (dNot A) := by
  refine ⟨pe_not h.p, ?_⟩
  intro S σ H env M Q R rn hr f q
  refine h.r S σ H env M _ _ rn hr f fun x M1 v H1 f1 g1 r1 hr1 => ?_
  split at f1
  · cases r1
    exact ⟨_, rfl, q _ M1 _ H1 f1 g1 (.bl _) hr1⟩
  · exact f1.elim
def dIf (I : DT) (A B : DE) : DE := fun env M Q => I env M fun k M1 => if k = true then A env M1 Q else B env M1 Q
theorem d_if (h0 : Ts X c ti I) (h1 : Ex X a ta A) (h2 : Ex X b tb B) : Ex X (.IfExp c a b pos) (tIf ti ta tb) (dIf I A B) := by
  refine ⟨pe_ifExp h0.p h1.p h2.p, ?_⟩
  intro S σ H env M Q R rn hr f q
  refine h0.r S σ H env M _ _ rn hr f fun k M1 H1 f1 g1 hr1 => ?_
  split at f1
  · rename_i e
    rw [if_pos e]
    exact h1.r S σ H1 env M1 Q R (rn.same g1.same) hr1 f1 fun d M' v H' h k rd hr' => q d M' v H' h (g1.trans k) rd hr'
  · rename_i e
    rw [if_neg e]
    exact h2.r S σ H1 env M1 Q R (rn.same g1.same) hr1 f1 fun d M' v H' h k rd hr' => q d M' v H' h (g1.trans k) rd hr'
/-! ## one argument -/
def gU (k : Int → Dv) : Dv → MH → DK → Prop := fun x M Q => match x with | .int i => Q (k i) M | _ => False
def dNeg (A : DE) : DE := fun env M Q => A env M fun x M1 => match x with | .int i => Q (.int (-i)) M1 | _ => False
theorem d_neg (h : Ex X a ta A) : Ex X (.UnaryOp .USub a pos) (tUn (rU fun i => .int (-i)) ta) (dNeg A) := by
  refine ⟨pe_un un_neg h.p, ?_⟩
  intro S σ H env M Q R rn hr f q
  refine h.r S σ H env M _ _ rn hr f fun x M1 v H1 f1 g1 r1 hr1 => ?_
  split at f1
  · cases r1
    exact ⟨_, rfl, q _ M1 _ H1 f1 g1 (.int _) hr1⟩
  · exact f1.elim
/-! ## lists of arguments, displays -/
def dANil : DA := fun _ M Q => Q [] M
def dACons (A : DE) (G : DA) : DA := fun env M Q => A env M fun x M1 => G env M1 fun xs M2 => Q (x :: xs) M2
theorem a_nil : As X [] tNil 0 dANil := by
  refine ⟨pa_nil, ?_⟩
  intro S σ H env M Q R rn hr f q
  exact q [] M [] H f rfl Gr.refl .nil hr
theorem a_cons (h1 : Ex X e te F) (h2 : As X es tt n G) (hs : starEach (e :: es) X.env = (false, eval e X.env) :: starEach es X.env := by rfl) : As X (e :: es) (tCons te tt) (n + 1) (dACons F G) := by
  refine ⟨pa_cons h1.p h2.p hs, ?_⟩
  intro S σ H env M Q R rn hr f q
  refine h1.r S σ H env M _ _ rn hr f fun x M1 v H1 f1 g1 r1 hr1 => ?_
  refine h2.r S σ H1 env M1 _ _ (rn.same g1.same) hr1 f1 fun ds M2 vs H2 f2 l2 g2 r2 hr2 => ?_
  exact q _ M2 _ H2 f2 (by rw [List.length_cons, l2]) (g1.trans g2) (.cons (RD.same g2.same _ _ r1) r2) hr2
def dTup (G : DA) : DE := fun env M Q => G env M fun ds M1 => Q (.tup ds) M1
def dLst (G : DA) : DE := fun env M Q => G env M fun ds M1 => Q (.lst ds) M1
/-- a new list that code changes -/
def dLstM (G : DA) : DE := fun env M Q => G env M fun ds M1 => ∀ p, M1 p = none → Q (.ref p) (mup M1 p (.lst ds))
theorem d_tup {x1} (h : As X es tt n G) (hn : n ≤ sizeLine := by decide) : Ex X (.Tuple es x1 pos) (tTup tt) (dTup G) := by
  refine ⟨pe_tup h.p, ?_⟩
  intro S σ H env M Q R rn hr f q
  refine h.r S σ H env M _ _ rn hr f fun ds M1 vs H1 f1 l1 g1 r1 hr1 => ⟨by rw [r1.len, l1]; exact hn, fun p hp => ?_⟩
  obtain ⟨g2, hr2, rd⟩ := RD.newT hr1 hp r1
  exact q _ M1 _ _ f1 (g1.trans g2) rd hr2
theorem d_lst (h : As X es tt n G) (hn : n ≤ sizeLine := by decide) : Ex X (.List es pos) (tLst tt) (dLst G) := by
  refine ⟨pe_lst h.p, ?_⟩
  intro S σ H env M Q R rn hr f q
  refine h.r S σ H env M _ _ rn hr f fun ds M1 vs H1 f1 l1 g1 r1 hr1 => ⟨by rw [r1.len, l1]; exact hn, fun p hp => ?_⟩
  obtain ⟨g2, hr2, rd⟩ := RD.newL hr1 hp r1
  exact q _ M1 _ _ f1 (g1.trans g2) rd hr2
theorem d_lstM (h : As X es tt n G) (hn : n ≤ sizeLine := by decide) : Ex X (.List es pos) (tLst tt) (dLstM G) := by
  refine ⟨pe_lst h.p, ?_⟩
  intro S σ H env M Q R rn hr f q
  refine h.r S σ H env M _ _ rn hr f fun ds M1 vs H1 f1 l1 g1 r1 hr1 => ⟨by rw [r1.len, l1]; exact hn, fun p hp => ?_⟩
  obtain ⟨g2, hr2⟩ := hr1.newM hp (.lst r1)
  exact q _ _ _ _ (f1 p (hr1.fresh hp).2) (g1.trans g2) (.ref p) hr2
/-- a list that is not changed any more -/
def dFrz (A : DE) : DE := fun env M Q => A env M fun x M1 => match x with
  | .ref p => match M1 p with
    | some (.lst ds) => Q (.lst ds) (mdel M1 p)
    | _ => False
  | _ => False
theorem d_frz (h : Ex X a ta A) : Ex X a ta (dFrz A) := by
  refine ⟨h.p, ?_⟩
  intro S σ H env M Q R rn hr f q
  refine h.r S σ H env M _ _ rn hr f fun x M1 v H1 f1 g1 r1 hr1 => ?_
  split at f1
  · split at f1
    · rename_i e
      cases r1
      obtain ⟨g2, hr2, rd⟩ := hr1.freeze e
      exact q _ _ _ H1 f1 (g1.trans g2) rd hr2
    · exact f1.elim
  · exact f1.elim
/-! ## places -/
def gIx : DO := fun x y M Q => match x, y with
  | .tup ds, .int i => match atI ds i with | some d => Q d M | none => False
  | .lst ds, .int i => match atI ds i with | some d => Q d M | none => False
  | .scr ns, .int i => match atI ns i with | some d => Q (.int d) M | none => False
  | .str z, .int i => z.length ≤ sizeLine ∧ match atI z.cps.toList i with | some c => Q (.str ⟨#[c]⟩) M | none => False
  | .ref p, .int i => match M p with
    | some (.lst ds) => match atI ds i with | some d => Q d M | none => False
    | _ => False
  | _, _ => False
theorem RDs.atI {K : PySem.W.Frag} {G : Hp} {vs : List V} {ds : List Dv} (h : RDs K G vs ds) {i : Int} {d : Dv} (e : atI ds i = some d) : ∃ v, L2.atI vs i = some v ∧ RD K G v d := by
  unfold L2.atI at e ⊢
  rw [h.len]
  cases c : ixN ds.length i with
  | none => rw [c] at e; cases e
  | some j =>
    rw [c] at e
    exact h.at e
theorem ix_or {r u : R2} (h1 : IxR X r) (h2 : IxR X u) : IxR X (fun x y H Q => r x y H Q ∨ u x y H Q) := by
  intro va sl pins s σ H x y v w Q I rx ry h hs
  rcases h with h | h
  · exact h1 va sl pins s σ H x y v w Q I rx ry h hs
  · exact h2 va sl pins s σ H x y v w Q I rx ry h hs
theorem RO.ix {K : PySem.W.Frag} : RO K (fun x y H Q => rIxL K x y H Q ∨ (rIxT K x y H Q ∨ rIxS x y H Q)) gIx := by
  intro S H x y dx dy M Q R rx ry hr f q
  unfold gIx at f
  split at f
  · split at f
    · rename_i e
      cases ry
      cases rx with
      | tup ha ra =>
        obtain ⟨v, ev, rd⟩ := ra.atI e
        exact .inr (.inl ⟨_, _, _, _, rfl, rfl, sqT_hid ha, ev, q _ M _ H f Gr.refl rd hr⟩)
    · exact f.elim
  · split at f
    · rename_i e
      cases ry
      cases rx with
      | lst ha ra =>
        obtain ⟨v, ev, rd⟩ := ra.atI e
        exact .inl ⟨_, _, _, _, rfl, rfl, SqL.of (hid_some ha).1, ev, q _ M _ H f Gr.refl rd hr⟩
    · exact f.elim
  · split at f
    · rename_i d e
      cases ry
      cases rx with
      | scr ha =>
        refine .inl ⟨_, _, _, .int d, rfl, rfl, sqL_hid ha, ?_, q _ M _ H f Gr.refl (.int _) hr⟩
        unfold atI at e ⊢
        rw [List.length_map]
        rename_i ns i _ _
        cases c : ixN ns.length i with
        | none => rw [c] at e; cases e
        | some j =>
          rw [c] at e
          show (List.map V.int ns)[j]? = _
          rw [List.getElem?_map]
          have e' : ns[j]? = some d := e
          rw [e']
          rfl
    · exact f.elim
  · obtain ⟨h1, f⟩ := f
    split at f
    · rename_i e
      cases ry
      cases rx
      exact .inr (.inr ⟨_, _, _, rfl, rfl, h1, e, q _ M _ H f Gr.refl (.str _) hr⟩)
    · exact f.elim
  · split at f
    · rename_i e
      split at f
      · rename_i e2
        cases ry
        cases rx
        obtain ⟨u, z1, z2⟩ := hr.obj _ _ e
        cases z2 with
        | lst ra =>
          obtain ⟨v, ev, rd⟩ := ra.atI e2
          exact .inl ⟨_, _, _, _, rfl, rfl, SqL.of z1, ev, q _ M _ H f Gr.refl rd hr⟩
      · exact f.elim
    · exact f.elim
  · exact f.elim
theorem d_ix (h1 : Ex X a ta A) (h2 : Ex X b tb B) (hs : PlainIx b := by exact fun _ _ => rfl) : Ex X (.Subscript a b pos) (tOp (fun x y H Q => rIxL X.K x y H Q ∨ (rIxT X.K x y H Q ∨ rIxS x y H Q)) ta tb) (dOp gIx A B) :=
  ⟨pe_ix (ix_or ix_list (ix_or ix_tup ix_str)) h1.p h2.p hs, RE.op RO.ix h1.r h2.r⟩
/-! ## slices -/
abbrev DP := DEnv → MH → (Option Int → MH → Prop) → Prop
def RP (K : PySem.W.Frag) (t : TO) (F : DP) : Prop := ∀ (S : Addr → Bool) (σ : L2.St) (H : Hp) (env : DEnv) (M : MH) (Q : Option Int → Hp → Prop) (R : Option Int → MH → Prop), RN K (hid S M H) σ env → HR K S M H → F env M R →
  (∀ b M' H', R b M' → Gr S M H M' H' → HR K S M' H' → Q b H') → t σ H Q
structure Pt (X : Cx) (e : Option Expr) (t : TO) (F : DP) : Prop where
  p : PO X e t
  r : RP X.K t F
def dPNone : DP := fun _ M Q => Q none M
def dPSome (A : DE) : DP := fun env M Q => A env M fun x M1 => match x with | .int i => Q (some i) M1 | _ => False
theorem p_none : Pt X none tNoPart dPNone := ⟨po_none, fun _ _ H _ M _ _ _ hr f q => q none M H f Gr.refl hr⟩
theorem p_some (h : Ex X a ta A) : Pt X (some a) (tPart ta) (dPSome A) := by
  refine ⟨po_some h.p, ?_⟩
  intro S σ H env M Q R rn hr f q
  refine h.r S σ H env M _ _ rn hr f fun x M1 v H1 f1 g1 r1 hr1 => ?_
  split at f1
  · cases r1
    exact ⟨_, rfl, q _ M1 H1 f1 g1 hr1⟩
  · exact f1.elim
def cutD {α : Type} (xs : List α) (lo hi : Option Int) : List α := (xs.drop (HT.sIx xs.length 0 lo)).take (HT.sIx xs.length xs.length hi - HT.sIx xs.length 0 lo)
def gSl (x : Dv) (lo hi : Option Int) (M : MH) (Q : DK) : Prop := match x with
  | .tup ds => Q (.tup (cutD ds lo hi)) M
  | .lst ds => Q (.lst (cutD ds lo hi)) M
  | .scr ns => Q (.lst ((cutD ns lo hi).map .int)) M
  | .str z => z.length ≤ sizeLine ∧ Q (.str (cutS z lo hi)) M
  | .ref p => match M p with
    | some (.lst ds) => Q (.lst (cutD ds lo hi)) M
    | _ => False
  | _ => False
def dSl (A : DE) (L U : DP) : DE := fun env M Q => A env M fun x M1 => L env M1 fun lo M2 => U env M2 fun hi M3 => gSl x lo hi M3 Q
theorem RDs.cut {K : PySem.W.Frag} {G : Hp} {vs : List V} {ds : List Dv} (h : RDs K G vs ds) (lo hi : Option Int) : RDs K G (cutV vs lo hi) (cutD ds lo hi) := by
  unfold cutV cutD
  rw [h.len]
  exact (h.drop _).take _
theorem cutD_all {α : Type} {xs : List α} {lo hi : Option Int} (h : HT.sIx xs.length 0 lo = 0 ∧ HT.sIx xs.length xs.length hi = xs.length) : cutD xs lo hi = xs := by
  unfold cutD
  rw [h.1, h.2, List.drop_zero, Nat.sub_zero, List.take_length]
theorem sl_or {r u : V → Option Int → Option Int → Hp → VK → Prop} (h1 : SlR X r) (h2 : SlR X u) : SlR X (fun x lo hi H Q => r x lo hi H Q ∨ u x lo hi H Q) := by
  intro pins s σ H x v vl vu lo hi sl Q I rx hs pl pu h
  rcases h with h | h
  · exact h1 pins s σ H x v vl vu lo hi sl Q I rx hs pl pu h
  · exact h2 pins s σ H x v vl vu lo hi sl Q I rx hs pl pu h
theorem RDs.ints {K : PySem.W.Frag} {G : Hp} : ∀ ns : List Int, RDs K G (ns.map V.int) (ns.map Dv.int)
  | [] => .nil
  | n :: r => .cons (.int n) (RDs.ints r)
theorem cut_ints (ns : List Int) (l u : Option Int) : cutV (ns.map V.int) l u = (cutD ns l u).map V.int := by
  unfold cutV cutD
  rw [List.length_map, List.map_take, List.map_drop]
theorem d_slice {lo hi : Option Expr} {p2 : Pos} {tl th : TO} {L U : DP} (h : Ex X e te F) (hl : Pt X lo tl L) (hu : Pt X hi th U) :
    Ex X (.Subscript e (.Slice lo hi none p2) pos) (tSl (fun x lo hi H Q => rSlL X.K x lo hi H Q ∨ (rSlA X.K x lo hi H Q ∨ rSlS x lo hi H Q)) te tl th) (dSl F L U) := by
  refine ⟨pe_slice (sl_or sl_list (sl_or sl_tupA sl_str)) h.p hl.p hu.p, ?_⟩
  intro S σ H env M Q R rn hr f q
  refine h.r S σ H env M _ _ rn hr f fun x M1 v H1 f1 g1 r1 hr1 => ?_
  refine hl.r S σ H1 env M1 _ _ (rn.same g1.same) hr1 f1 fun l M2 H2 f2 g2 hr2 => ?_
  refine hu.r S σ H2 env M2 _ _ (rn.same (g1.trans g2).same) hr2 f2 fun u M3 H3 f3 g3 hr3 => ?_
  have r3 := RD.same (g2.trans g3).same _ _ r1
  have gg := (g1.trans g2).trans g3
  unfold gSl at f3
  split at f3
  · cases r3 with
    | tup ha ra =>
      refine .inr (.inl ⟨_, _, rfl, sqT_hid ha, fun z => ?_, fun _ p hp => ?_⟩)
      · rw [ra.len] at z
        rw [cutD_all z] at f3
        exact q _ M3 _ H3 f3 gg (.tup ha ra) hr3
      · obtain ⟨g4, hr4, rd⟩ := RD.newT hr3 hp (ra.cut l u)
        exact q _ M3 _ _ f3 (gg.trans g4) rd hr4
  · cases r3 with
    | lst ha ra =>
      refine .inl ⟨_, _, rfl, SqL.of (hid_some ha).1, fun p hp => ?_⟩
      obtain ⟨g4, hr4, rd⟩ := RD.newL hr3 hp (ra.cut l u)
      exact q _ M3 _ _ f3 (gg.trans g4) rd hr4
  · cases r3 with
    | scr ha =>
      refine .inl ⟨_, _, rfl, sqL_hid ha, fun p hp => ?_⟩
      rw [cut_ints]
      obtain ⟨g4, hr4, rd⟩ := RD.newL hr3 hp (RDs.ints (K := X.K) (G := hid S M3 H3) (cutD _ l u))
      exact q _ M3 _ _ f3 (gg.trans g4) rd hr4
  · cases r3
    exact .inr (.inr ⟨_, rfl, f3.1, q _ M3 _ H3 f3.2 gg (.str _) hr3⟩)
  · cases r3
    split at f3
    · rename_i e
      obtain ⟨w, z1, z2⟩ := hr3.obj _ _ e
      cases z2 with
      | lst ra =>
        refine .inl ⟨_, _, rfl, SqL.of z1, fun p hp => ?_⟩
        obtain ⟨g4, hr4, rd⟩ := RD.newL hr3 hp (ra.cut l u)
        exact q _ M3 _ _ f3 (gg.trans g4) rd hr4
    · exact f3.elim
  · exact f3.elim
end
end Vk
set_option linter.unusedVariables false
namespace Vk
open PySem PySem.Spec PyProof.Rows L2
/-! # The data layer: calls -/
abbrev DF := List Dv → MH → DK → Prop
def spD (K : PySem.W.Frag) (F : DF) : Sp := fun vs H Q _ => ∃ (S : Addr → Bool) (ds : List Dv) (M : MH) (R : DK), RDs K (hid S M H) vs ds ∧ HR K S M H ∧ F ds M R ∧
  ∀ d M' v H', R d M' → Gr S M H M' H' → RD K (hid S M' H') v d → HR K S M' H' → Q v H'
structure DCal (P : Program) (w : World) (K : PySem.W.Frag) (mg : Str → Option Value) (base : Heap) (x : Str) (k : Nat) (F : DF) : Prop where
  ex : ∃ (f : Addr) (fd : FuncData) (ps : List Str), Gk P w K mg base k f fd ps (spD K F) ∧ mg x = some (.ref f) ∧ PySem.W.keepIn K (.ref f) = true ∧ Binds K fd ps []
/-- a def by its address (a value) -/
structure DAt (P : Program) (w : World) (K : PySem.W.Frag) (mg : Str → Option Value) (base : Heap) (f : Addr) (k : Nat) (F : DF) : Prop where
  ex : ∃ (fd : FuncData) (ps : List Str), Gk P w K mg base k f fd ps (spD K F) ∧ PySem.W.keepIn K (.ref f) = true ∧ Binds K fd ps []
def dstart (N : List Str) (ds : List Dv) : DEnv := ds.map some ++ List.replicate (N.length - ds.length) none
theorem RN.start {K : PySem.W.Frag} {G : Hp} {vs : List V} {ds : List Dv} (N : List Str) (h : RDs K G vs ds) : RN K G (L2.start N vs) (dstart N ds) := by
  refine ⟨by unfold L2.start dstart; rw [List.length_append, List.length_append, List.length_map, List.length_map, List.length_replicate, List.length_replicate, h.len], fun i d e => ?_⟩
  unfold dstart at e
  by_cases c : i < ds.length
  · rw [List.getElem?_append_left (by rw [List.length_map]; exact c), List.getElem?_map] at e
    cases e2 : ds[i]? with
    | none => rw [e2] at e; cases e
    | some d' =>
      rw [e2] at e
      cases e
      obtain ⟨v, ev, rd⟩ := h.at e2
      refine ⟨v, ?_, rd⟩
      unfold L2.start
      rw [List.getElem?_append_left (by rw [List.length_map, h.len]; exact c), List.getElem?_map, ev]
      rfl
  · rw [List.getElem?_append_right (by rw [List.length_map]; omega), List.getElem?_replicate] at e
    split at e
    · cases e
    · cases e
/-- a def by its body -/
theorem dfun {P : Program} {w : World} {K : PySem.W.Frag} {mg : Str → Option Value} {base : Heap} {k : Nat} {f : Addr} {fd : FuncData} {ps N : List Str} {x qual : Str} {st : Stmt} {F : DF}
    (Fn : L2.Fun K x qual st f fd) (S : FnScope N ps (defScope st)) (len : ∀ ds M R, F ds M R → ds.length = ps.length)
    (body : ∀ (cd : Value) (A : Around) (out : List Env) (s : Shared) (H : Hp) (E : XK), (A.deeper (envOfC qual (defScope st) s.heap.objs.size f cd)).guards = some [] → Room k (A.deeper (envOfC qual (defScope st) s.heap.objs.size f cd)) →
      ∃ t G, Ss (cxOf CX0 P w K mg base N qual (defScope st) f cd A out s H E).nox (defBody st) t G ∧
        ∀ ds M (R : DK), F ds M R → G { nx := fun _ M' => R .non M', rt := R } (dstart N ds) M) : Gk P w K mg base (k + 1) f fd ps (spD K F) := by
  refine okG Fn S (fun vs H Q E h => ?_) (fun cd A out s H vs Q E hg hr h => ?_)
  · obtain ⟨S', ds, M, R, h1, _, h2, _⟩ := h
    rw [h1.len]
    exact len ds M R h2
  · obtain ⟨S', ds, M, R, h1, hr', h2, q⟩ := h
    obtain ⟨t, G, hs, hb⟩ := body cd A out s H E hg hr
    refine ⟨t, hs.p, ?_⟩
    refine hs.r S' (L2.start N vs) H (dstart N ds) M _ _ (RN.start N h1) hr' (hb ds M R h2) ⟨fun env' M' σ' H' e g rn hr2 => ?_, fun _ _ _ _ e _ _ _ => e.elim, fun _ _ _ _ e _ _ _ => e.elim, fun d M' v H' e g rd hr2 => q d M' v H' e g rd hr2⟩
    exact q .non M' .non H' e g .non hr2
section
variable {X : Cx} {a b c e : Expr} {es : List Expr} {ta tb tc te : TE} {tt : TA} {n k j : Nat} {A B C D : DE} {G : DA} {pos p : Pos} {F : DF} {x : Str}
def dCall (F : DF) (G : DA) : DE := fun env M Q => G env M fun ds M1 => F ds M1 Q
theorem RE.call {K : PySem.W.Frag} (h : RA K tt n G) : RE K (tCall (spD K F) [] E0 tt) (dCall F G) := by
  intro S σ H env M Q R rn hr f q
  refine h S σ H env M _ _ rn hr f fun ds M1 vs H1 f1 l1 g1 r1 hr1 => ?_
  show spD K F (vs ++ []) H1 Q E0
  rw [List.append_nil]
  exact ⟨S, ds, M1, R, r1, hr1, f1, fun d M' v H' h k rd hr' => q d M' v H' h (g1.trans k) rd hr'⟩
theorem d_call (hg : X.A.guards = some []) (C : DCal X.prog X.w X.K X.mg X.base x k F) (hr : Room j X.A) (gl : Gl X x) (h : As X (e :: es) tt n G) (hk : k ≤ j := by decide) (dbg : (x == ("__debug__" : Str)) = false := by decide)
    (st : starEach (e :: es) X.env = (false, eval e X.env) :: starEach es X.env := by rfl) (pl : (backTo pos (starEach es X.env)).any (·.1) = false := by rfl) : Ex X (.Call (.Name x p) (e :: es) [] pos) (tCall (spD X.K F) [] E0 tt) (dCall F G) := by
  obtain ⟨f, fd, ps, h1, h2, h3, h4⟩ := C.ex
  exact ⟨pe_callG hg h1 (hr.mono hk) gl h2 h3 h4 h.p dbg st pl, RE.call h.r⟩
/-- f() -/
theorem d_call0 (hg : X.A.guards = some []) (C : DCal X.prog X.w X.K X.mg X.base x k F) (hr : Room j X.A) (gl : Gl X x) (hk : k ≤ j := by decide) (dbg : (x == ("__debug__" : Str)) = false := by decide) :
    Ex X (.Call (.Name x p) [] [] pos) (tCall (spD X.K F) [] E0 tNil) (dCall F dANil) := by
  obtain ⟨f, fd, ps, h1, h2, h3, h4⟩ := C.ex
  refine ⟨⟨fun pins s σ H Q I h => ?_⟩, RE.call a_nil.r⟩
  refine wpAny_Call_Name_kw (ld_glob I gl h2 ?_ dbg)
  exact PySem.W.callWith_K0 I.kIn h3 (runG (us := []) hg h1 (hr.mono hk) h4 I .nil h)
/-- a local name that holds a def -/
def tCallD (i : Nat) (P : Addr → Sp → Prop) (t : TA) : TE := fun σ H Q => ∃ f sp, σ[i]? = some (some (.ref f)) ∧ P f sp ∧ t σ H fun vs H1 => sp vs H1 Q E0
def dCallV (i : Nat) (P : Addr → DF → Prop) (G : DA) : DE := fun env M Q => ∃ f F, env[i]? = some (some (.ref f)) ∧ P f F ∧ G env M fun ds M1 => F ds M1 Q
theorem d_callv (i : Nat) (hg : X.A.guards = some []) (hr : Room j X.A) (h : As X (e :: es) tt n G) (hN : X.N[i]? = some x := by rfl) (hv : Vis X.env.scope x := by first | exact Or.inl rfl | exact Or.inr (Or.inl rfl) | exact Or.inr (Or.inr rfl))
    (hd : (x == ("__debug__" : Str)) = false := by decide) (hcd : (x == ("__classdict__" : Str)) = false := by decide)
    (st : starEach (e :: es) X.env = (false, eval e X.env) :: starEach es X.env := by rfl) (pl : (backTo pos (starEach es X.env)).any (·.1) = false := by rfl) :
    Ex X (.Call (.Name x p) (e :: es) [] pos) (tCallD i (fun f sp => ∃ k F, k ≤ j ∧ DAt X.prog X.w X.K X.mg X.base f k F ∧ sp = spD X.K F) tt) (dCallV i (fun f F => ∃ k, k ≤ j ∧ DAt X.prog X.w X.K X.mg X.base f k F) G) := by
  refine ⟨⟨fun pins s σ H Q I h0 => ?_⟩, ?_⟩
  · obtain ⟨f, sp, hs, ⟨k, F, hk, ⟨fd, ps, h1, h3, h4⟩, rfl⟩, ht⟩ := h0
    refine wpAny_Call_Name_kw (thn ((pe_var (pos := p) hN hv hd hcd).run pins s σ H (fun v H1 => v = .ref f ∧ H1 = H) I ⟨.ref f, hs, rfl, rfl⟩) fun u s1 ⟨v, H1, I1, r1, q1⟩ => ?_)
    obtain ⟨rfl, rfl⟩ := q1
    cases r1
    refine PySem.W.callWith_K (h₀ := X.base) I.ok.mod.kin h3 (thn (h.p.run pos pins s1 σ _ _ I1 ht) fun us s2 ⟨vs, H2, I2, r, q⟩ => ⟨I2.kIn, ?_⟩) st pl
    exact runG hg h1 (hr.mono hk) h4 I2 r q
  · intro S σ H env M Q R rn hr' f q
    obtain ⟨f0, F, he, ⟨k, hk, hat⟩, f⟩ := f
    obtain ⟨v, ev, rd⟩ := rn.at_ i _ he
    cases rd
    refine ⟨f0, spD X.K F, ev, ⟨k, F, hk, hat, rfl⟩, ?_⟩
    refine h.r S σ H env M _ _ rn hr' f fun ds M1 vs H1 f1 l1 g1 r1 hr1 => ?_
    exact ⟨S, ds, M1, R, r1, hr1, f1, fun d M' v H' h k rd hr' => q d M' v H' h (g1.trans k) rd hr'⟩
/-! ## built-in ones -/
abbrev DL := List Dv → MH → DK → Prop
def RC (K : PySem.W.Frag) (r : List V → Hp → VK → Prop) (g : DL) : Prop := ∀ (S : Addr → Bool) (H : Hp) (vs : List V) (ds : List Dv) (M : MH) (Q : VK) (R : DK), RDs K (hid S M H) vs ds → HR K S M H → g ds M R →
  (∀ d M' v H', R d M' → Gr S M H M' H' → RD K (hid S M' H') v d → HR K S M' H' → Q v H') → r vs H Q
def dCB (g : DL) (G : DA) : DE := fun env M Q => G env M fun ds M1 => g ds M1 Q
theorem RE.cb {K : PySem.W.Frag} {r : List V → Hp → VK → Prop} {g : DL} (o : RC K r g) (h : RA K tt n G) : RE K (tCB r tt) (dCB g G) := by
  intro S σ H env M Q R rn hr f q
  refine h S σ H env M _ _ rn hr f fun ds M1 vs H1 f1 l1 g1 r1 hr1 => ?_
  exact o S H1 vs ds M1 Q R r1 hr1 f1 fun d M' v H' h k rd hr' => q d M' v H' h (g1.trans k) rd hr'
structure Cb (X : Cx) (f : Value) (r : List V → Hp → VK → Prop) (g : DL) : Prop where
  p : CallR X f r
  r : RC X.K r g
theorem d_cb {id : String} {r : List V → Hp → VK → Prop} {g : DL} (o : Cb X (.builtin id) r g) (hg : Gl X x) (hm : X.mg x = none) (hv : bootBuiltins x = some (.builtin id)) (h : As X (e :: es) tt n G) (hn : x ≠ "__name__" := by decide) (hdb : (x == ("__debug__" : Str)) = false := by decide)
    (he : starEach (e :: es) X.env = (false, eval e X.env) :: starEach es X.env := by rfl) (hpl : (backTo pos (starEach es X.env)).any (·.1) = false := by rfl) : Ex X (.Call (.Name x p) (e :: es) [] pos) (tCB r tt) (dCB g G) :=
  ⟨pe_callB o.p hg hm hv h.p hn hdb he hpl, RE.cb o.r h.r⟩
theorem d_cty {T : String} {r : List V → Hp → VK → Prop} {g : DL} (o : Cb X (.type T) r g) (hg : Gl X x) (hm : X.mg x = none) (hv : bootBuiltins x = some (.type T)) (h : As X (e :: es) tt n G) (hn : x ≠ "__name__" := by decide) (hdb : (x == ("__debug__" : Str)) = false := by decide)
    (he : starEach (e :: es) X.env = (false, eval e X.env) :: starEach es X.env := by rfl) (hpl : (backTo pos (starEach es X.env)).any (·.1) = false := by rfl) : Ex X (.Call (.Name x p) (e :: es) [] pos) (tCB r tt) (dCB g G) :=
  ⟨pe_callTy o.p hg hm hv h.p hn hdb he hpl, RE.cb o.r h.r⟩
def gLen : DL := fun ds M Q => match ds with
  | [.tup xs] => Q (.int (xs.length : Nat)) M
  | [.lst xs] => Q (.int (xs.length : Nat)) M
  | [.scr xs] => Q (.int (xs.length : Nat)) M
  | [.str y] => y.length ≤ sizeLine ∧ Q (.int (y.length : Nat)) M
  | [.ref p] => match M p with
    | some (.lst xs) => Q (.int (xs.length : Nat)) M
    | _ => False
  | _ => False
theorem RDs.one {K : PySem.W.Frag} {H : Hp} {vs : List V} {d : Dv} (h : RDs K H vs [d]) : ∃ v, vs = [v] ∧ RD K H v d := by
  cases h with
  | cons a b => cases b; exact ⟨_, rfl, a⟩
theorem RDs.two {K : PySem.W.Frag} {H : Hp} {vs : List V} {d e : Dv} (h : RDs K H vs [d, e]) : ∃ v w, vs = [v, w] ∧ RD K H v d ∧ RD K H w e := by
  cases h with
  | cons a b => cases b with
    | cons b c => cases c; exact ⟨_, _, rfl, a, b⟩
theorem c_len : Cb X (.builtin "len") (fun xs H Q => ∃ x n, xs = [x] ∧ LenV X.K x H n ∧ Q (.int n) H) gLen := by
  refine ⟨call_len, ?_⟩
  intro S H vs ds M Q R rs hr f q
  unfold gLen at f
  split at f
  · obtain ⟨v, rfl, rd⟩ := rs.one
    cases rd with
    | tup ha ra => exact ⟨_, _, rfl, .inr ⟨_, sqT_hid ha, rfl⟩, q _ M _ H f Gr.refl (by rw [ra.len]; exact .int _) hr⟩
  · obtain ⟨v, rfl, rd⟩ := rs.one
    cases rd with
    | lst ha ra => exact ⟨_, _, rfl, .inl ⟨_, SqL.of (hid_some ha).1, rfl⟩, q _ M _ H f Gr.refl (by rw [ra.len]; exact .int _) hr⟩
  · obtain ⟨v, rfl, rd⟩ := rs.one
    cases rd with
    | scr ha => exact ⟨_, _, rfl, .inl ⟨_, sqL_hid ha, rfl⟩, q _ M _ H f Gr.refl (by rw [List.length_map]; exact .int _) hr⟩
  · obtain ⟨v, rfl, rd⟩ := rs.one
    cases rd
    exact ⟨_, _, rfl, ⟨f.1, rfl⟩, q _ M _ H f.2 Gr.refl (.int _) hr⟩
  · split at f
    · rename_i e
      obtain ⟨v, rfl, rd⟩ := rs.one
      cases rd
      obtain ⟨w, z1, z2⟩ := hr.obj _ _ e
      cases z2 with
      | lst ra => exact ⟨_, _, rfl, .inl ⟨_, SqL.of z1, rfl⟩, q _ M _ H f Gr.refl (by rw [ra.len]; exact .int _) hr⟩
    · exact f.elim
  · exact f.elim
def gTupOf : DL := fun ds M Q => match ds with
  | [.tup xs] => Q (.tup xs) M
  | [.lst xs] => Q (.tup xs) M
  | [.scr ns] => Q (.tup (ns.map .int)) M
  | [.ref p] => match M p with
    | some (.lst xs) => Q (.tup xs) M
    | _ => False
  | _ => False
theorem c_tuple : Cb X (.type "tuple") (fun xs H Q => ∃ p ys, xs = [.ref p] ∧ ((SqL X.K H p ys ∧ ∀ l, H l = none → Q (.ref l) (upd H l (.tup ys))) ∨ (SqT X.K H p ys ∧ Q (.ref p) H))) gTupOf := by
  refine ⟨call_tuple_of, ?_⟩
  intro S H vs ds M Q R rs hr f q
  unfold gTupOf at f
  split at f
  · obtain ⟨v, rfl, rd⟩ := rs.one
    cases rd with
    | tup ha ra => exact ⟨_, _, rfl, .inr ⟨sqT_hid ha, q _ M _ H f Gr.refl (.tup ha ra) hr⟩⟩
  · obtain ⟨v, rfl, rd⟩ := rs.one
    cases rd with
    | lst ha ra =>
      refine ⟨_, _, rfl, .inl ⟨SqL.of (hid_some ha).1, fun l hl => ?_⟩⟩
      obtain ⟨g, hr', rd⟩ := RD.newT hr hl ra
      exact q _ M _ _ f g rd hr'
  · obtain ⟨v, rfl, rd⟩ := rs.one
    cases rd with
    | scr ha =>
      refine ⟨_, _, rfl, .inl ⟨sqL_hid ha, fun l hl => ?_⟩⟩
      obtain ⟨g, hr', rd⟩ := RD.newT hr hl (RDs.ints (K := X.K) (G := hid S M H) _)
      exact q _ M _ _ f g rd hr'
  · split at f
    · rename_i e
      obtain ⟨v, rfl, rd⟩ := rs.one
      cases rd
      obtain ⟨w, z1, z2⟩ := hr.obj _ _ e
      cases z2 with
      | lst ra =>
        refine ⟨_, _, rfl, .inl ⟨SqL.of z1, fun l hl => ?_⟩⟩
        obtain ⟨g, hr', rd⟩ := RD.newT hr hl ra
        exact q _ M _ _ f g rd hr'
    · exact f.elim
  · exact f.elim
def gLstOf : DL := fun ds M Q => match ds with
  | [.tup xs] => Q (.lst xs) M
  | [.lst xs] => Q (.lst xs) M
  | [.scr ns] => Q (.lst (ns.map .int)) M
  | [.ref p] => match M p with
    | some (.lst xs) => Q (.lst xs) M
    | _ => False
  | _ => False
theorem c_list : Cb X (.type "list") (fun xs H Q => ∃ p ys, xs = [.ref p] ∧ (SqL X.K H p ys ∨ SqT X.K H p ys) ∧ ∀ l, H l = none → Q (.ref l) (upd H l (.lst ys))) gLstOf := by
  refine ⟨call_list_of, ?_⟩
  intro S H vs ds M Q R rs hr f q
  unfold gLstOf at f
  split at f
  · obtain ⟨v, rfl, rd⟩ := rs.one
    cases rd with
    | tup ha ra =>
      refine ⟨_, _, rfl, .inr (sqT_hid ha), fun l hl => ?_⟩
      obtain ⟨g, hr', rd⟩ := RD.newL hr hl ra
      exact q _ M _ _ f g rd hr'
  · obtain ⟨v, rfl, rd⟩ := rs.one
    cases rd with
    | lst ha ra =>
      refine ⟨_, _, rfl, .inl (SqL.of (hid_some ha).1), fun l hl => ?_⟩
      obtain ⟨g, hr', rd⟩ := RD.newL hr hl ra
      exact q _ M _ _ f g rd hr'
  · obtain ⟨v, rfl, rd⟩ := rs.one
    cases rd with
    | scr ha =>
      refine ⟨_, _, rfl, .inl (sqL_hid ha), fun l hl => ?_⟩
      obtain ⟨g, hr', rd⟩ := RD.newL hr hl (RDs.ints (K := X.K) (G := hid S M H) _)
      exact q _ M _ _ f g rd hr'
  · split at f
    · rename_i e
      obtain ⟨v, rfl, rd⟩ := rs.one
      cases rd
      obtain ⟨w, z1, z2⟩ := hr.obj _ _ e
      cases z2 with
      | lst ra =>
        refine ⟨_, _, rfl, .inl (SqL.of z1), fun l hl => ?_⟩
        obtain ⟨g, hr', rd⟩ := RD.newL hr hl ra
        exact q _ M _ _ f g rd hr'
    · exact f.elim
  · exact f.elim
theorem rds_bools {K : PySem.W.Frag} {G : Hp} : ∀ {bs : List Bool} {vs : List V}, RDs K G vs (bs.map Dv.bl) → vs = bs.map V.bl
  | [], _, h => by cases h; rfl
  | b :: r, _, h => by
    cases h with
    | cons a t => cases a; rw [rds_bools t]; rfl
def gAll (k : List Bool → Bool) : DL := fun ds M Q => ∃ bs : List Bool, ds = [.lst (bs.map .bl)] ∧ Q (.bl (k bs)) M
theorem c_all (hc : X.calm = true) : Cb X (.builtin "all") (rAll X.K) (gAll fun bs => bs.all id) := by
  refine ⟨cr_all hc, ?_⟩
  intro S H vs ds M Q R rs hr f q
  obtain ⟨bs, rfl, f⟩ := f
  obtain ⟨v, rfl, rd⟩ := rs.one
  cases rd with
  | lst ha ra =>
    rw [rds_bools ra] at ha
    exact ⟨_, bs, rfl, SqL.of (hid_some ha).1, q _ M _ H f Gr.refl (.bl _) hr⟩
theorem c_any (hc : X.calm = true) : Cb X (.builtin "any") (rAny X.K) (gAll fun bs => bs.any id) := by
  refine ⟨cr_any hc, ?_⟩
  intro S H vs ds M Q R rs hr f q
  obtain ⟨bs, rfl, f⟩ := f
  obtain ⟨v, rfl, rd⟩ := rs.one
  cases rd with
  | lst ha ra =>
    rw [rds_bools ra] at ha
    exact ⟨_, bs, rfl, SqL.of (hid_some ha).1, q _ M _ H f Gr.refl (.bl _) hr⟩
def gOrd : DL := fun ds M Q => match ds with | [.str y] => y.length = 1 ∧ Q (.int (y.cps.getD 0 0 : Nat)) M | _ => False
theorem c_ord : Cb X (.builtin "ord") (fun xs H Q => ∃ x, xs = [.str x] ∧ x.length = 1 ∧ Q (.int (x.cps.getD 0 0 : Nat)) H) gOrd := by
  refine ⟨call_ord, ?_⟩
  intro S H vs ds M Q R rs hr f q
  unfold gOrd at f
  split at f
  · obtain ⟨v, rfl, rd⟩ := rs.one
    cases rd
    exact ⟨_, rfl, f.1, q _ M _ H f.2 Gr.refl (.int _) hr⟩
  · exact f.elim
def gInt : DL := fun ds M Q => match ds with | [.int i] => Q (.int i) M | [.bl k] => Q (.int (if k then 1 else 0)) M | _ => False
theorem c_int : Cb X (.type "int") (fun xs H Q => (∃ i, xs = [.int i] ∧ Q (.int i) H) ∨ ∃ k, xs = [.bl k] ∧ Q (.int (if k then 1 else 0)) H) gInt := by
  refine ⟨call_int1, ?_⟩
  intro S H vs ds M Q R rs hr f q
  unfold gInt at f
  split at f
  · obtain ⟨v, rfl, rd⟩ := rs.one
    cases rd
    exact .inl ⟨_, rfl, q _ M _ H f Gr.refl (.int _) hr⟩
  · obtain ⟨v, rfl, rd⟩ := rs.one
    cases rd
    exact .inr ⟨_, rfl, q _ M _ H f Gr.refl (.int _) hr⟩
  · exact f.elim
def gII (k : Int → Int → Int) : DL := fun ds M Q => match ds with | [.int i, .int j] => Q (.int (k i j)) M | _ => False
theorem c_max (hc : X.calm = true) : Cb X (.builtin "max") (fun xs H Q => ∃ i j, xs = [.int i, .int j] ∧ Q (.int (if j > i then j else i)) H) (gII fun i j => if j > i then j else i) := by
  refine ⟨call_max2 hc, ?_⟩
  intro S H vs ds M Q R rs hr f q
  unfold gII at f
  split at f
  · obtain ⟨v, w, rfl, rd, rd2⟩ := rs.two
    cases rd
    cases rd2
    exact ⟨_, _, rfl, q _ M _ H f Gr.refl (.int _) hr⟩
  · exact f.elim
theorem c_min (hc : X.calm = true) : Cb X (.builtin "min") (fun xs H Q => ∃ i j, xs = [.int i, .int j] ∧ Q (.int (if j < i then j else i)) H) (gII fun i j => if j < i then j else i) := by
  refine ⟨call_min2 hc, ?_⟩
  intro S H vs ds M Q R rs hr f q
  unfold gII at f
  split at f
  · obtain ⟨v, w, rfl, rd, rd2⟩ := rs.two
    cases rd
    cases rd2
    exact ⟨_, _, rfl, q _ M _ H f Gr.refl (.int _) hr⟩
  · exact f.elim
/-! ## kinds -/
def tyN (M : MH) : Dv → Option String
  | .non => some "NoneType"
  | .bl _ => some "bool"
  | .int _ => some "int"
  | .str _ => some "str"
  | .tup _ => some "tuple"
  | .lst _ => some "list"
  | .scr _ => some "list"
  | .ref p => match M p with
    | some (.lst _) => some "list"
    | some (.dK _) => some "dict"
    | _ => none
  | .ty _ => none
theorem RD.ty_ {K : PySem.W.Frag} {S : Addr → Bool} {M : MH} {H : Hp} {v : V} {d : Dv} {n : String} (hr : HR K S M H) (h : RD K (hid S M H) v d) (e : tyN M d = some n) : TyX K H v (.type n) := by
  cases h with
  | non => cases e; exact .base .non
  | bl b => cases e; exact .base (.bl b)
  | int i => cases e; exact .base (.int i)
  | str x => cases e; exact .base (.str x)
  | tup ha ra => cases e; exact sqT_ty (sqT_hid ha)
  | lst ha ra => cases e; exact .base (.lst (hid_some ha).1)
  | scr ha =>
    cases e
    rcases sqL_hid ha with (h | ⟨o, h⟩) | ⟨o, its, n, h1, h2, _⟩
    · exact .base (.lst h)
    · exact .base (.frz h)
    · exact .kList h1 h2
  | ref a =>
    unfold tyN at e
    simp only at e
    split at e
    · rename_i e1
      cases e
      obtain ⟨w, z1, z2⟩ := hr.obj _ _ e1
      cases z2
      exact .base (.lst z1)
    · rename_i e1
      cases e
      obtain ⟨w, z1, z2⟩ := hr.obj _ _ e1
      cases z2
      exact .base (.dK z1)
    · cases e
  | ty m => cases e
def kitv (a n : String) : Bool := a == n || (a == "bool" && n == "int")
theorem kit_names {K : PySem.W.Frag} {a n : String} (ha : a ∈ ["NoneType", "bool", "int", "str", "tuple", "list", "dict"]) (hn : n ∈ ["bool", "int", "str", "tuple", "list", "dict"]) : PySem.W.kitOne K (.type a) (.type n) = some (kitv a n) := by
  simp only [List.mem_cons, List.not_mem_nil, or_false] at ha hn
  rcases ha with rfl | rfl | rfl | rfl | rfl | rfl | rfl <;> rcases hn with rfl | rfl | rfl | rfl | rfl | rfl <;> exact kit_ty (by decide +kernel)
theorem tyN_mem {M : MH} {d : Dv} {a : String} (e : tyN M d = some a) : a ∈ ["NoneType", "bool", "int", "str", "tuple", "list", "dict"] := by
  unfold tyN at e
  split at e
  all_goals first
    | (cases e; done)
    | (cases e; decide)
    | (split at e <;> first | (cases e; done) | (cases e; decide))
def gIsi : DL := fun ds M Q => match ds with
  | [x, .ty n] => n ∈ ["bool", "int", "str", "tuple", "list", "dict"] ∧ match tyN M x with | some a => Q (.bl (kitv a n)) M | none => False
  | _ => False
theorem c_isi : Cb X (.builtin "isinstance") (rIsi X.K) gIsi := by
  refine ⟨call_isi, ?_⟩
  intro S H vs ds M Q R rs hr f q
  unfold gIsi at f
  split at f
  · obtain ⟨hn, f⟩ := f
    split at f
    · rename_i e
      obtain ⟨v, w, rfl, rd, rd2⟩ := rs.two
      cases rd2
      exact ⟨_, _, _, _, _, rfl, .ty _, rd.ty_ hr e, kit_names (tyN_mem e) hn, q _ M _ H f Gr.refl (.bl _) hr⟩
    · exact f.elim
  · exact f.elim
theorem d_tyname {x : Str} {n : String} {pos : Pos} (hg : Gl X x) (hm : X.mg x = none) (hv : bootBuiltins x = some (.type n)) (hn : x ≠ "__name__" := by decide) (hd : (x == ("__debug__" : Str)) = false := by decide) : Ex X (.Name x pos) (tC (.ty n)) (dC (.ty n)) :=
  ⟨pe_bltn (v := .ty n) hg hm hv rfl hn hd, RE.con fun _ => .ty n⟩
end
end Vk
set_option linter.unusedVariables false
namespace Vk
open PySem PySem.Spec PyProof.Rows L2
/-! # The data layer: statements -/
/-! ## targets -/
abbrev DG := Dv → DEnv → MH → (DEnv → MH → Prop) → Prop
abbrev DGs := List Dv → DEnv → MH → (DEnv → MH → Prop) → Prop
/-- ws: the slots that are written -/
def RG (K : PySem.W.Frag) (g : TG) (ws : List Nat) (F : DG) : Prop := ∀ (S : Addr → Bool) (σ : L2.St) (H : Hp) (v : V) (d : Dv) (env : DEnv) (M : MH) (Q : L2.St → Hp → Prop) (R : DEnv → MH → Prop),
  RD K (hid S M H) v d → RN K (hid S M H) σ env → HR K S M H → F d env M R →
  (∀ env' M' σ' H', R env' M' → Gr S M H M' H' → RN K (hid S M' H') σ' env' → HR K S M' H' → (σ'.length = σ.length ∧ ∀ i, i ∉ ws → σ'[i]? = σ[i]?) → Q σ' H') → g v σ H Q
def RGs (K : PySem.W.Frag) (g : TGs) (ws : List Nat) (F : DGs) : Prop := ∀ (S : Addr → Bool) (σ : L2.St) (H : Hp) (vs : List V) (ds : List Dv) (env : DEnv) (M : MH) (Q : L2.St → Hp → Prop) (R : DEnv → MH → Prop),
  RDs K (hid S M H) vs ds → RN K (hid S M H) σ env → HR K S M H → F ds env M R →
  (∀ env' M' σ' H', R env' M' → Gr S M H M' H' → RN K (hid S M' H') σ' env' → HR K S M' H' → (σ'.length = σ.length ∧ ∀ i, i ∉ ws → σ'[i]? = σ[i]?) → Q σ' H') → g vs σ H Q
structure Tg (X : Cx) (e : Expr) (g : TG) (ws : List Nat) (F : DG) : Prop where
  p : PG X e g
  r : RG X.K g ws F
structure Tgs (X : Cx) (es : List Expr) (g : TGs) (ws : List Nat) (F : DGs) : Prop where
  p : PGs X es g
  r : RGs X.K g ws F
def sName (i : Nat) : DG := fun d env M Q => Q (env.set i (some d)) M
def sNil : DGs := fun ds env M Q => match ds with | [] => Q env M | _ => False
def sCons (F : DG) (Fs : DGs) : DGs := fun ds env M Q => match ds with | d :: r => F d env M fun env1 M1 => Fs r env1 M1 Q | [] => False
def sTup (n : Nat) (Fs : DGs) : DG := fun d env M Q => match d with | .tup ds => ds.length = n ∧ Fs ds env M Q | _ => False
theorem RG.name {K : PySem.W.Frag} (i : Nat) : RG K (gName i) [i] (sName i) := by
  intro S σ H v d env M Q R rd rn hr f q
  exact q _ M _ H f Gr.refl (rn.set rd i) hr ⟨List.length_set, fun j hj => List.getElem?_set_ne (fun z => hj (by rw [z]; exact List.mem_singleton.mpr rfl))⟩
theorem RGs.nil {K : PySem.W.Frag} : RGs K gNil [] sNil := by
  intro S σ H vs ds env M Q R rs rn hr f q
  unfold sNil at f
  split at f
  · cases rs
    exact ⟨rfl, q _ M _ H f Gr.refl rn hr ⟨rfl, fun _ _ => rfl⟩⟩
  · exact f.elim
theorem RGs.cons {K : PySem.W.Frag} {g : TG} {gs : TGs} {ws ws' : List Nat} {F : DG} {Fs : DGs} (h1 : RG K g ws F) (h2 : RGs K gs ws' Fs) : RGs K (gCons g gs) (ws ++ ws') (sCons F Fs) := by
  intro S σ H vs ds env M Q R rs rn hr f q
  unfold sCons at f
  split at f
  · cases rs with
    | cons a b =>
      refine ⟨_, _, rfl, h1 S σ H _ _ env M _ _ a rn hr f fun env1 M1 σ1 H1 f1 g1 rn1 hr1 k1 => ?_⟩
      exact h2 S σ1 H1 _ _ env1 M1 _ _ (RDs.same g1.same _ _ b) rn1 hr1 f1 fun env2 M2 σ2 H2 f2 g2 rn2 hr2 k2 =>
        q env2 M2 σ2 H2 f2 (g1.trans g2) rn2 hr2 ⟨k2.1.trans k1.1, fun i hi => (k2.2 i fun z => hi (List.mem_append.mpr (.inr z))).trans (k1.2 i fun z => hi (List.mem_append.mpr (.inl z)))⟩
  · exact f.elim
theorem RG.tup {K : PySem.W.Frag} {n : Nat} {gs : TGs} {ws : List Nat} {Fs : DGs} (h : RGs K gs ws Fs) : RG K (gTup K n gs) ws (sTup n Fs) := by
  intro S σ H v d env M Q R rd rn hr f q
  unfold sTup at f
  split at f
  · cases rd with
    | tup ha ra => exact ⟨_, _, rfl, sqT_hid ha, by rw [ra.len]; exact f.1, h S σ H _ _ env M Q R ra rn hr f.2 q⟩
  · exact f.elim
section
variable {X : Cx} {a b c e : Expr} {es : List Expr} {ta tb tc te : TE} {ti tj : TT} {tt : TA} {n k j : Nat} {A B C D : DE} {I J : DT} {G : DA} {pos p : Pos} {F : DF} {x : Str} {st : Stmt} {sts us : List Stmt} {t u : TS} {T U : DS}
theorem g_name (i : Nat) (hN : X.N.Nodup) (hi : X.N[i]? = some x := by rfl) (hx : Loc X.env.scope x := by first | exact Or.inl rfl | exact Or.inr rfl) (hf : X.fn x = true ∨ X.env.scope.names.lookup x = some .local := by first | exact .inl rfl | exact .inr rfl | assumption) : Tg X (.Name x pos) (gName i) [i] (sName i) :=
  ⟨pg_name hN hi hx hf, RG.name i⟩
theorem gs_nil : Tgs X [] gNil [] sNil := ⟨pgs_nil, RGs.nil⟩
theorem gs_cons {g : TG} {gs : TGs} {ws ws' : List Nat} {F : DG} {Fs : DGs} (h1 : Tg X e g ws F) (h2 : Tgs X es gs ws' Fs)
    (hs : (assignEach (e :: es) X.env).map (·.2) = assign e X.env :: (assignEach es X.env).map (·.2) := by rfl) : Tgs X (e :: es) (gCons g gs) (ws ++ ws') (sCons F Fs) := ⟨pgs_cons h1.p h2.p hs, RGs.cons h1.r h2.r⟩
theorem g_tup {es : List Expr} {k : Nat} {gs : TGs} {ws : List Nat} {Fs : DGs} {n : Nat} (hc : X.calm = true) (h : Tgs X es gs ws Fs)
    (hn : (assignEach es X.env).length = n := by rfl) (hst : (assignEach es X.env).findIdx? (·.1) = none := by rfl) : Tg X (.Tuple es k pos) (gTup X.K n gs) ws (sTup n Fs) := ⟨pg_tup hc h.p hn hst, RG.tup h.r⟩
/-! ## simple statements -/
def dNext : DS := fun E env M => E.nx env M
def dSeq (T U : DS) : DS := fun E env M => T { E with nx := U E } env M
def dRet (A : DE) : DS := fun E env M => A env M E.rt
def dRetN : DS := fun E _ M => E.rt .non M
def dDrop (A : DE) : DS := fun E env M => A env M fun _ M1 => E.nx env M1
def dSet (i : Nat) (A : DE) : DS := fun E env M => A env M fun x M1 => E.nx (env.set i (some x)) M1
def dIfS (I : DT) (T U : DS) : DS := fun E env M => I env M fun k M1 => if k = true then T E env M1 else U E env M1
def dAsg (A : DE) (g : DG) : DS := fun E env M => A env M fun x M1 => g x env M1 E.nx
def dBrk : DS := fun E env M => E.bk env M
def dCnt : DS := fun E env M => E.ct env M
theorem ss_nil : Ss X [] tNext dNext := ⟨pss_nil, fun S σ H env M D E rn hr f c => c.nx env M σ H f Gr.refl rn hr⟩
theorem ss_cons (h1 : Sm X st t T) (h2 : Ss X sts u U) : Ss X (st :: sts) (tSeq t u) (dSeq T U) := by
  refine ⟨pss_cons h1.p h2.p, ?_⟩
  intro S σ H env M D E rn hr f c
  refine h1.r S σ H env M _ _ rn hr f ⟨fun env' M' σ' H' e g rn' hr' => ?_, c.bk, c.ct, c.rt⟩
  exact h2.r S σ' H' env' M' D E rn' hr' e (c.from g)
theorem ss_one (h1 : Sm X st t T) : Ss X [st] t T := ⟨pss_one h1.p, h1.r⟩
theorem s_ret (h : Ex X e te A) : Sm X (.Return (some e) pos) (tRet te) (dRet A) := by
  refine ⟨ps_ret h.p, ?_⟩
  intro S σ H env M D E rn hr f c
  exact h.r S σ H env M _ _ rn hr f fun d M' v H' e g rd hr' => c.rt d M' v H' e g rd hr'
theorem s_retN : Sm X (.Return none pos) tRetN dRetN := ⟨ps_retN, fun S σ H env M D E rn hr f c => c.rt .non M .non H f Gr.refl .non hr⟩
theorem s_expr (h : Ex X e te A) (hs : swapsWith e none pos.line X.env = pure false := by rfl) : Sm X (.Expr e pos) (tDrop te) (dDrop A) := by
  refine ⟨ps_expr h.p hs, ?_⟩
  intro S σ H env M D E rn hr f c
  exact h.r S σ H env M _ _ rn hr f fun d M' v H' e g rd hr' => c.nx env M' σ H' e g (rn.same g.same) hr'
theorem s_set {i : Nat} {pos' : Pos} (hN : X.N.Nodup) (hi : X.N[i]? = some x) (hx : Loc X.env.scope x) (h : Ex X e te A) (hs : swapsWith e (some (.Name x pos')) pos.line X.env = pure false := by rfl)
    (hf : X.fn x = true ∨ X.env.scope.names.lookup x = some .local := by first | exact .inl rfl | exact .inr rfl | assumption) : Sm X (.Assign [.Name x pos'] e pos) (tAsg te (gName i)) (dSet i A) := by
  refine ⟨ps_set (i := i) hN hi hx h.p hs hf, ?_⟩
  intro S σ H env M D E rn hr f c
  refine h.r S σ H env M _ _ rn hr f fun d M' v H' e g rd hr' => ?_
  exact c.nx _ M' _ H' e g ((rn.same g.same).set rd i) hr'
theorem s_if {sa sb : List Stmt} (h0 : Ts X c ti I) (h1 : Ss X sa t T) (h2 : Ss X sb u U) : Sm X (.If c sa sb pos) (tIfS ti t u) (dIfS I T U) := by
  refine ⟨ps_if h0.p h1.p h2.p, ?_⟩
  intro S σ H env M D E rn hr f c
  refine h0.r S σ H env M _ _ rn hr f fun k M1 H1 f1 g1 hr1 => ?_
  split at f1
  · rename_i e
    rw [if_pos e]
    exact h1.r S σ H1 env M1 D E (rn.same g1.same) hr1 f1 (c.from g1)
  · rename_i e
    rw [if_neg e]
    exact h2.r S σ H1 env M1 D E (rn.same g1.same) hr1 f1 (c.from g1)
theorem s_asg {tg : Expr} {g : TG} {ws : List Nat} {Fg : DG} (h : Ex X e te A) (hg : Tg X tg g ws Fg) (hs : swapsWithSole [tg] e pos.line X.env = pure false := by rfl) (hw : swappedStores [tg] e X.env = pure none := by rfl) (h1 : List.map (·.2) (assignEach [tg] X.env) = [assign tg X.env] := by rfl) :
    Sm X (.Assign [tg] e pos) (tAsg te g) (dAsg A Fg) := by
  refine ⟨ps_asg h.p hg.p hs hw (h1 := h1), ?_⟩
  intro S σ H env M D E rn hr f c
  refine h.r S σ H env M _ _ rn hr f fun d M' v H' e g rd hr' => ?_
  exact hg.r S σ H' v d env M' _ _ rd (rn.same g.same) hr' e fun env2 M2 σ2 H2 e2 g2 rn2 hr2 _ => c.nx env2 M2 σ2 H2 e2 (g.trans g2) rn2 hr2
theorem s_brk : Sm X (.Break pos) tBreak dBrk := ⟨ps_break, fun S σ H env M D E rn hr f c => c.bk env M σ H f Gr.refl rn hr⟩
theorem s_cnt : Sm X (.Continue pos) tCont dCnt := ⟨ps_continue, fun S σ H env M D E rn hr f c => c.ct env M σ H f Gr.refl rn hr⟩
theorem s_pass : Sm X (.Pass pos) tNext dNext := ⟨ps_pass, fun S σ H env M D E rn hr f c => c.nx env M σ H f Gr.refl rn hr⟩
/-! ## what is walked -/
abbrev DI := DEnv → MH → (List Dv → (MH → Prop) → MH → Prop) → Prop
structure Walks (K : PySem.W.Frag) (G : Hp) (J : It) (items : List Dv) (inv : MH → Prop) : Prop where
  go : ∀ i d, items[i]? = some d → ∀ S2 M2 H2, Same G (hid S2 M2 H2) → HR K S2 M2 H2 → inv M2 → J.go i H2 ∧ ∀ x H3, J.yld i H2 x H3 → Gr S2 M2 H2 M2 H3 ∧ HR K S2 M2 H3 ∧ RD K (hid S2 M2 H3) x d
  stop : ∀ S2 M2 H2, Same G (hid S2 M2 H2) → HR K S2 M2 H2 → inv M2 → J.stop items.length H2
def RI (K : PySem.W.Frag) (wi : TI) (F : DI) : Prop := ∀ (S : Addr → Bool) (σ : L2.St) (H : Hp) (env : DEnv) (M : MH) (Q : It → Hp → Prop) (R : List Dv → (MH → Prop) → MH → Prop), RN K (hid S M H) σ env → HR K S M H → F env M R →
  (∀ items inv M' J H', R items inv M' → Gr S M H M' H' → HR K S M' H' → Walks K (hid S M' H') J items inv → Q J H') → wi σ H Q
structure Wk (X : Cx) (tg e : Expr) (wi : TI) (F : DI) : Prop where
  p : PI X tg e wi
  r : RI X.K wi F
@[irreducible] def dFor (W : DI) (g : DG) (body : DS) : DS := fun E env M => W env M fun items inv M1 => ∃ I : Nat → DEnv → MH → Prop, I 0 env M1 ∧ (∀ i env M, I i env M → inv M) ∧
  (∀ i d env M, items[i]? = some d → I i env M → g d env M fun env1 M1 => body { E with nx := I (i + 1), ct := I (i + 1), bk := E.nx } env1 M1) ∧ ∀ env M, I items.length env M → E.nx env M
theorem s_for {tg it : Expr} {body : List Stmt} {wi : TI} {g : TG} {ws : List Nat} {W : DI} {Fg : DG} (hp : PassesOwn (model X.prog X.w) X.A X.env X.xe) (hc : X.calm = true) (hi : Wk X tg it wi W) (hg : Tg X tg g ws Fg) (hb : Ss X body t T)
    (hs : ∀ x, foldedSetIterable it X.env x = pure x := by intro _; rfl) : Sm X (.For tg it body [] pos) (tFor wi g t) (dFor W Fg T) := by
  refine ⟨ps_for hp hc hi.p hg.p hb.p hs, ?_⟩
  intro S σ H env M D E rn hr f c
  unfold dFor at f
  refine hi.r S σ H env M _ _ rn hr f fun items inv M1 J H1 f1 g1 hr1 wk => ?_
  obtain ⟨I, h0, hin, step, fin⟩ := f1
  refine ⟨fun i m σ' H' => ∃ env' M', I i env' M' ∧ m = items.length - i ∧ i ≤ items.length ∧ Gr S M1 H1 M' H' ∧ RN X.K (hid S M' H') σ' env' ∧ HR X.K S M' H', ⟨_, env, M1, h0, rfl, Nat.zero_le _, Gr.refl, rn.same g1.same, hr1⟩, ?_⟩
  rintro i m σ2 H2 ⟨env2, M2, h2, rfl, hi2, g2, rn2, hr2⟩
  rcases Nat.lt_or_eq_of_le hi2 with hlt | heq
  · refine .inr ?_
    have hd : items[i]? = some items[i] := List.getElem?_eq_getElem hlt
    obtain ⟨w1, w2⟩ := wk.go i _ hd S M2 H2 g2.same hr2 (hin _ _ _ h2)
    refine ⟨w1, fun σ' H' => ∃ env' M', I (i + 1) env' M' ∧ Gr S M1 H1 M' H' ∧ RN X.K (hid S M' H') σ' env' ∧ HR X.K S M' H', fun σ' H' ⟨e', M', y1, y2, y3, y4⟩ => ⟨items.length - (i + 1), by omega, e', M', y1, rfl, hlt, y2, y3, y4⟩, fun x H3 hy => ?_⟩
    obtain ⟨g3, hr3, rd⟩ := w2 x H3 hy
    refine hg.r S σ2 H3 x _ env2 M2 _ _ rd (rn2.same g3.same) hr3 (step i _ env2 M2 hd h2) fun env4 M4 σ4 H4 f4 g4 rn4 hr4 _ => ?_
    have gg := (g2.trans g3).trans g4
    exact hb.r S σ4 H4 env4 M4 _ _ rn4 hr4 f4 ⟨fun e' M' σ' H' y z rn' hr' => ⟨e', M', y, gg.trans z, rn', hr'⟩, fun e' M' σ' H' y z rn' hr' => c.nx e' M' σ' H' y (g1.trans (gg.trans z)) rn' hr',
      fun e' M' σ' H' y z rn' hr' => ⟨e', M', y, gg.trans z, rn', hr'⟩, fun d M' v H' y z rd' hr' => c.rt d M' v H' y (g1.trans (gg.trans z)) rd' hr'⟩
  · subst heq
    exact .inl ⟨wk.stop S M2 H2 g2.same hr2 (hin _ _ _ h2), c.nx env2 M2 σ2 H2 (fin _ _ h2) (g1.trans g2) rn2 hr2⟩
def dWhile (I : DT) (T : DS) : DS := fun E env M => ∃ W : Nat → DEnv → MH → Prop, (∃ m, W m env M) ∧ ∀ m env M, W m env M → I env M fun b M1 =>
  if b = true then T { E with nx := fun e' M' => ∃ m', m' < m ∧ W m' e' M', ct := fun e' M' => ∃ m', m' < m ∧ W m' e' M', bk := E.nx } env M1 else E.nx env M1
theorem s_while {body : List Stmt} (hp : PassesOwn (model X.prog X.w) X.A X.env X.xe) (h0 : Ts X c ti I) (hb : Ss X body t T) : Sm X (.While c body [] pos) (tWhile ti t) (dWhile I T) := by
  refine ⟨ps_while hp h0.p hb.p, ?_⟩
  intro S σ H env M D E rn hr f c
  obtain ⟨W, ⟨m0, w0⟩, turn⟩ := f
  refine ⟨fun m σ' H' => ∃ env' M', W m env' M' ∧ Gr S M H M' H' ∧ RN X.K (hid S M' H') σ' env' ∧ HR X.K S M' H', ⟨m0, env, M, w0, Gr.refl, rn, hr⟩, ?_⟩
  rintro m σ1 H1 ⟨env1, M1, w1, g1, rn1, hr1⟩
  refine h0.r S σ1 H1 env1 M1 _ _ rn1 hr1 (turn m env1 M1 w1) fun b M2 H2 f2 g2 hr2 => ?_
  split at f2
  · rename_i e
    rw [if_pos e]
    refine ⟨fun σ' H' => ∃ env' M', (∃ m', m' < m ∧ W m' env' M') ∧ Gr S M H M' H' ∧ RN X.K (hid S M' H') σ' env' ∧ HR X.K S M' H', fun σ' H' ⟨e', M', ⟨m', l, w'⟩, y2, y3, y4⟩ => ⟨m', l, e', M', w', y2, y3, y4⟩, ?_⟩
    have gg := g1.trans g2
    exact hb.r S σ1 H2 env1 M2 _ _ (rn1.same g2.same) hr2 f2 ⟨fun e' M' σ' H' y z rn' hr' => ⟨e', M', y, gg.trans z, rn', hr'⟩, fun e' M' σ' H' y z rn' hr' => c.nx e' M' σ' H' y (gg.trans z) rn' hr',
      fun e' M' σ' H' y z rn' hr' => ⟨e', M', y, gg.trans z, rn', hr'⟩, fun d M' v H' y z rd' hr' => c.rt d M' v H' y (gg.trans z) rd' hr'⟩
  · rename_i e
    rw [if_neg e]
    exact c.nx env1 M2 σ1 H2 f2 (g1.trans g2) (rn1.same g2.same) hr2
end
end Vk
set_option linter.unusedVariables false
namespace Vk
open PySem PySem.Spec PyProof.Rows L2
/-! # The data layer: walks, comprehensions, equality, match -/
section
variable {X : Cx} {a b c e tg : Expr} {es : List Expr} {ta tb tc te : TE} {ti tj : TT} {tt : TA} {n k j : Nat} {A B C D : DE} {I J : DT} {G : DA} {pos p : Pos} {F : DF} {x : Str}
abbrev tru : MH → Prop := fun _ => True
/-- the items of data that are walked -/
def wItems (A : DE) : DI := fun env M R => A env M fun d M1 => match d with
  | .lst ds => R ds tru M1
  | .scr ns => R (ns.map .int) tru M1
  | .ref p => match M1 p with
    | some (.lst ds) => R ds (fun M2 => M2 p = some (.lst ds)) M1
    | _ => False
  | _ => False
theorem Gr.mk' {S : Addr → Bool} {M : MH} {H : Hp} : Gr S M H M H := Gr.refl
theorem w_list (h : Ex X a ta A) : Wk X tg a (iList X.K ta) (wItems A) := by
  refine ⟨pi_list h.p, ?_⟩
  intro S σ H env M Q R rn hr f q
  refine h.r S σ H env M _ _ rn hr f fun d M1 v H1 f1 g1 r1 hr1 => ?_
  split at f1
  · cases r1 with
    | lst ha ra =>
      refine ⟨_, rfl, ⟨_, SqL.of (hid_some ha).1⟩, q _ _ M1 _ H1 f1 g1 hr1 ⟨fun i d e S2 M2 H2 s hr2 _ => ?_, fun S2 M2 H2 s hr2 _ => ?_⟩⟩
      · obtain ⟨v, ev, rd⟩ := ra.at e
        have at2 := SqL.of (K := X.K) (hid_some (s _ _ ha)).1
        refine ⟨⟨_, v, at2, ev⟩, fun x H3 hy => ?_⟩
        obtain ⟨rfl, z⟩ := hy
        have e2 := z _ at2
        rw [ev] at e2
        cases e2
        exact ⟨Gr.refl, hr2, RD.same s _ _ rd⟩
      · exact ⟨_, SqL.of (hid_some (s _ _ ha)).1, Nat.le_of_eq ra.len⟩
  · cases r1 with
    | scr ha =>
      refine ⟨_, rfl, ⟨_, sqL_hid ha⟩, q _ _ M1 _ H1 f1 g1 hr1 ⟨fun i d e S2 M2 H2 s hr2 _ => ?_, fun S2 M2 H2 s hr2 _ => ?_⟩⟩
      · obtain ⟨v, ev, rd⟩ := (RDs.ints (K := X.K) (G := hid S2 M2 H2) _).at e
        have at2 := sqL_hid (sqL_same s ha)
        refine ⟨⟨_, v, at2, ev⟩, fun x H3 hy => ?_⟩
        obtain ⟨rfl, z⟩ := hy
        have e2 := z _ at2
        rw [ev] at e2
        cases e2
        exact ⟨Gr.refl, hr2, rd⟩
      · exact ⟨_, sqL_hid (sqL_same s ha), by rw [List.length_map, List.length_map]; exact Nat.le_refl _⟩
  · cases r1
    split at f1
    · rename_i p _ ds e0
      obtain ⟨u, z1, z2⟩ := hr1.obj _ _ e0
      cases z2 with
      | lst ra0 =>
        refine ⟨_, rfl, ⟨_, SqL.of z1⟩, q _ _ M1 _ H1 f1 g1 hr1 ⟨fun i d e S2 M2 H2 s hr2 hin => ?_, fun S2 M2 H2 s hr2 hin => ?_⟩⟩
        · obtain ⟨u2, y1, y2⟩ := hr2.obj _ _ hin
          cases y2 with
          | lst ra =>
            obtain ⟨v, ev, rd⟩ := ra.at e
            have at2 := SqL.of (K := X.K) y1
            refine ⟨⟨_, v, at2, ev⟩, fun x H3 hy => ?_⟩
            obtain ⟨rfl, z⟩ := hy
            have e2 := z _ at2
            rw [ev] at e2
            cases e2
            exact ⟨Gr.refl, hr2, rd⟩
        · obtain ⟨u2, y1, y2⟩ := hr2.obj _ _ hin
          cases y2 with
          | lst ra => exact ⟨_, SqL.of y1, Nat.le_of_eq ra.len⟩
    · exact f1.elim
  · exact f1.elim
def wTup (A : DE) : DI := fun env M R => A env M fun d M1 => match d with
  | .tup ds => R ds tru M1
  | _ => False
theorem w_tup (h : Ex X a ta A) : Wk X tg a (iTup X.K ta) (wTup A) := by
  refine ⟨pi_tup h.p, ?_⟩
  intro S σ H env M Q R rn hr f q
  refine h.r S σ H env M _ _ rn hr f fun d M1 v H1 f1 g1 r1 hr1 => ?_
  split at f1
  · cases r1 with
    | tup ha ra =>
      refine ⟨_, rfl, ⟨_, sqT_hid ha⟩, q _ _ M1 _ H1 f1 g1 hr1 ⟨fun i d e S2 M2 H2 s hr2 _ => ?_, fun S2 M2 H2 s hr2 _ => ?_⟩⟩
      · obtain ⟨v, ev, rd⟩ := ra.at e
        have at2 := sqT_hid (sqT_same s ha)
        refine ⟨⟨_, v, at2, ev⟩, fun x H3 hy => ?_⟩
        obtain ⟨rfl, z⟩ := hy
        have e2 := z _ at2
        rw [ev] at e2
        cases e2
        exact ⟨Gr.refl, hr2, RD.same s _ _ rd⟩
      · exact ⟨_, sqT_hid (sqT_same s ha), Nat.le_of_eq ra.len⟩
  · exact f1.elim
def wStr (A : DE) : DI := fun env M R => A env M fun d M1 => match d with
  | .str y => R (y.cps.toList.map fun c => .str ⟨#[c]⟩) tru M1
  | _ => False
theorem w_str (h : Ex X a ta A) : Wk X tg a (iStr ta) (wStr A) := by
  refine ⟨pi_str h.p, ?_⟩
  intro S σ H env M Q R rn hr f q
  refine h.r S σ H env M _ _ rn hr f fun d M1 v H1 f1 g1 r1 hr1 => ?_
  cases d with
  | str y =>
    cases r1
    refine ⟨_, rfl, q _ _ M1 _ H1 f1 g1 hr1 ⟨fun i d e S2 M2 H2 s hr2 _ => ?_, fun S2 M2 H2 s hr2 _ => ?_⟩⟩
    · rw [List.getElem?_map, Array.getElem?_toList] at e
      cases c : y.cps[i]? with
      | none => rw [c] at e; cases e
      | some c' =>
        rw [c] at e
        cases e
        refine ⟨(Array.getElem?_eq_some_iff.mp c).1, fun x H3 hy => ?_⟩
        obtain ⟨rfl, c2, e2, rfl⟩ := hy
        rw [c] at e2
        cases e2
        exact ⟨Gr.refl, hr2, .str _⟩
    · show _ ≤ _
      rw [List.length_map, Array.length_toList]
      exact Nat.le_refl _
  | _ => exact f1.elim
def intsD (lo : Int) (n : Nat) : List Dv := (List.range n).map fun i => .int (lo + (i : Nat))
theorem walks_range {K : PySem.W.Frag} {G : Hp} (lo : Int) (n : Nat) : Walks K G (Itr lo n) (intsD lo n) tru := by
  refine ⟨fun i d e S2 M2 H2 s hr2 _ => ?_, fun S2 M2 H2 s hr2 _ => ?_⟩
  · unfold intsD at e
    rw [List.getElem?_map] at e
    by_cases c : i < n
    · rw [List.getElem?_range c] at e
      cases e
      refine ⟨c, fun x H3 hy => ?_⟩
      obtain ⟨rfl, rfl⟩ := hy
      exact ⟨Gr.refl, hr2, .int _⟩
    · rw [List.getElem?_eq_none (by simpa using c)] at e
      cases e
  · show _ ≤ _
    unfold intsD
    rw [List.length_map, List.length_range]
    exact Nat.le_refl _
def wRng1 (G : DA) : DI := fun env M R => G env M fun ds M1 => match ds with
  | [.int j] => -(2 ^ 62) ≤ j ∧ j < 2 ^ 62 ∧ R (intsD 0 j.toNat) tru M1
  | _ => False
def wRng2 (G : DA) : DI := fun env M R => G env M fun ds M1 => match ds with
  | [.int i, .int j] => (-(2 ^ 62) ≤ i ∧ i < 2 ^ 62 ∧ -(2 ^ 62) ≤ j ∧ j < 2 ^ 62) ∧ R (intsD i (j - i).toNat) tru M1
  | _ => False
theorem w_range1 {p pos : Pos} (hg : Gl X "range") (hm : X.mg "range" = none) (h : As X [a] tt n G) (hs : starEach [a] X.env = [(false, eval a X.env)] := by rfl) : Wk X tg (.Call (.Name "range" p) [a] [] pos) (iRng1 tt) (wRng1 G) := by
  refine ⟨pi_range1 hg hm h.p hs, ?_⟩
  intro S σ H env M Q R rn hr f q
  refine h.r S σ H env M _ _ rn hr f fun ds M1 vs H1 f1 l1 g1 r1 hr1 => ?_
  split at f1
  · obtain ⟨v, rfl, rd⟩ := r1.one
    cases rd
    exact ⟨_, rfl, f1.1, f1.2.1, q _ _ M1 _ H1 f1.2.2 g1 hr1 (walks_range _ _)⟩
  · exact f1.elim
theorem w_range2 {p pos : Pos} (hg : Gl X "range") (hm : X.mg "range" = none) (h : As X [a, b] tt n G) (hs : starEach [a, b] X.env = [(false, eval a X.env), (false, eval b X.env)] := by rfl) (hs2 : starEach [b] X.env = [(false, eval b X.env)] := by rfl) :
    Wk X tg (.Call (.Name "range" p) [a, b] [] pos) (iRng2 tt) (wRng2 G) := by
  refine ⟨pi_range2 hg hm h.p hs hs2, ?_⟩
  intro S σ H env M Q R rn hr f q
  refine h.r S σ H env M _ _ rn hr f fun ds M1 vs H1 f1 l1 g1 r1 hr1 => ?_
  split at f1
  · obtain ⟨v, w, rfl, rd, rd2⟩ := r1.two
    cases rd
    cases rd2
    exact ⟨_, _, rfl, f1.1, q _ _ M1 _ H1 f1.2 g1 hr1 (walks_range _ _)⟩
  · exact f1.elim
/-! ## comprehensions -/
def dYes : DT := fun _ M Q => Q true M
@[irreducible] def dLc (W : DI) (g : DG) (T : DT) (A : DE) (vs : List Nat) : DE := fun env M Q => W env M fun items inv M1 => items.length ≤ sizeLine ∧ ∃ I : Nat → List Dv → MH → Prop, I 0 [] M1 ∧ (∀ i acc M, I i acc M → inv M) ∧
  (∀ i d acc M, items[i]? = some d → I i acc M → g d (wipeD env vs) M fun env1 M2 => T env1 M2 fun b M3 => if b = true then A env1 M3 fun y M4 => I (i + 1) (acc ++ [y]) M4 else I (i + 1) acc M3) ∧ ∀ acc M, I items.length acc M → Q (.lst acc) M
theorem wipe_get (σ : L2.St) (j : Nat) : ∀ vs : List Nat, (L2.wipe σ vs)[j]? = if j ∈ vs then (σ[j]?).map (fun _ => none) else σ[j]?
  | [] => by simp [L2.wipe]
  | v :: vs => by
    unfold L2.wipe
    have ih := wipe_get σ j vs
    by_cases c : v = j
    · subst c
      rw [if_pos List.mem_cons_self]
      by_cases l : v < (L2.wipe σ vs).length
      · rw [List.getElem?_set_self l]
        rw [L2.wipe_length] at l
        rw [List.getElem?_eq_getElem l]
        rfl
      · rw [List.getElem?_eq_none (by simpa using l)]
        rw [L2.wipe_length] at l
        rw [List.getElem?_eq_none (by simpa using l)]
        rfl
    · rw [List.getElem?_set_ne c, ih]
      have e : (j ∈ v :: vs) ↔ j ∈ vs := by simp [show ¬ j = v from fun z => c z.symm]
      by_cases d : j ∈ vs
      · rw [if_pos d, if_pos (e.mpr d)]
      · rw [if_neg d, if_neg (fun z => d (e.mp z))]
theorem wipe_back {σ σ2 : L2.St} {vs ws : List Nat} (hw : ∀ i, i ∈ ws → i ∈ vs) (hl : σ2.length = σ.length) (h : ∀ i, i ∉ ws → σ2[i]? = (L2.wipe σ vs)[i]?) : L2.wipe σ2 vs = L2.wipe σ vs := by
  apply List.ext_getElem?
  intro j
  rw [wipe_get, wipe_get]
  by_cases c : j ∈ vs
  · rw [if_pos c, if_pos c]
    by_cases l : j < σ.length
    · rw [List.getElem?_eq_getElem l, List.getElem?_eq_getElem (by rw [hl]; exact l)]
      rfl
    · rw [List.getElem?_eq_none (show σ2.length ≤ j by omega), List.getElem?_eq_none (show σ.length ≤ j by omega)]
  · rw [if_neg c, if_neg c, h j fun z => c (hw j z), wipe_get, if_neg c]
theorem RE.lc {K : PySem.W.Frag} {wi : TI} {g : TG} {tT : TT} {te : TE} {vs ws : List Nat} {W : DI} {Fg : DG} {T : DT} {A : DE} (hi : RI K wi W) (hg : RG K g ws Fg) (ht : RT K tT T) (he : RE K te A) (hw : ∀ i, i ∈ ws → i ∈ vs) :
    RE K (tLc wi g tT te vs) (dLc W Fg T A vs) := by
  intro S σ H env M Q R rn hr f q
  unfold dLc at f
  refine hi S σ H env M _ _ rn hr f fun items inv M1 J H1 f1 g1 hr1 wk => ?_
  obtain ⟨hsz, I, h0, hin, step, fin⟩ := f1
  intro D hD
  obtain ⟨sD, mD⟩ := hr1.fresh hD
  let S2 : Addr → Bool := fun z => S z || z == D
  have s2D : S2 D = true := by simp [S2]
  have s2S : ∀ z, S z = true → S2 z = true := fun z hz => by simp [S2, hz]
  have hid0 : ∀ o, hid S2 M1 (upd H1 D o) = hid S M1 H1 := fun o => by
    funext z
    by_cases c : z = D
    · subst c
      unfold hid
      rw [s2D, sD, mD, hD]
      simp
    · have e : S2 z = S z := by simp [S2, c]
      unfold hid
      rw [e, upd_ne c]
  have hr0 : HR K S2 M1 (upd H1 D (.lst [])) := by
    refine ⟨fun z o e => ?_, fun z hz => ?_⟩
    · obtain ⟨u, y1, y2⟩ := hr1.obj z o e
      have n : z ≠ D := fun w => by subst w; rw [mD] at e; cases e
      exact ⟨u, by rw [upd_ne n]; exact y1, by rw [hid0]; exact y2⟩
    · by_cases c : z = D
      · subst c
        exact ⟨mD, by rw [upd_same]; exact fun w => by cases w⟩
      · have e : S z = true := by simpa [S2, c] using hz
        obtain ⟨y1, y2⟩ := hr1.apart z e
        exact ⟨y1, by rw [upd_ne c]; exact y2⟩
  refine ⟨fun i m H' => ∃ acc M' av, I i acc M' ∧ H' D = some (.lst av) ∧ RDs K (hid S2 M' H') av acc ∧ HR K S2 M' H' ∧ Same (hid S M1 H1) (hid S2 M' H') ∧ (∀ z, S z = true → H' z = H1 z) ∧ acc.length ≤ i ∧ m = items.length - i ∧ i ≤ items.length,
    ⟨_, [], M1, [], h0, upd_same, .nil, hr0, by rw [hid0]; exact Same.refl _, fun z hz => upd_ne (fun w => by subst w; rw [sD] at hz; cases hz), Nat.zero_le _, rfl, Nat.zero_le _⟩, ?_⟩
  rintro i m H2 ⟨acc, M2, av, h2, at2, ra2, hr2, same2, hold2, hl2, rfl, hi2⟩
  rcases Nat.lt_or_eq_of_le hi2 with hlt | heq
  · refine .inr ?_
    have hd : items[i]? = some items[i] := List.getElem?_eq_getElem hlt
    obtain ⟨w1, w2⟩ := wk.go i _ hd S2 M2 H2 same2 hr2 (hin _ _ _ h2)
    refine ⟨w1, fun H' => ∃ acc' M' av', I (i + 1) acc' M' ∧ H' D = some (.lst av') ∧ RDs K (hid S2 M' H') av' acc' ∧ HR K S2 M' H' ∧ Same (hid S M1 H1) (hid S2 M' H') ∧ (∀ z, S z = true → H' z = H1 z) ∧ acc'.length ≤ i + 1,
      fun H' ⟨a', M', av', y1, y2, y3, y4, y5, y6, y7⟩ => ⟨items.length - (i + 1), by omega, a', M', av', y1, y2, y3, y4, y5, y6, y7, rfl, hlt⟩, fun x H3 hy => ?_⟩
    obtain ⟨g3, hr3, rd⟩ := w2 x H3 hy
    have rnw : RN K (hid S2 M2 H3) (L2.wipe σ vs) (wipeD env vs) := by
      refine RN.same g3.same (RN.same same2 (RN.wipe (rn.same g1.same) vs))
    refine hg S2 (L2.wipe σ vs) H3 x _ (wipeD env vs) M2 _ _ rd rnw hr3 (step i _ acc M2 hd h2) fun env4 M4 σ4 H4 f4 g4 rn4 hr4 k4 => ?_
    refine ⟨wipe_back hw (by rw [k4.1, L2.wipe_length]) k4.2, ?_⟩
    refine ht S2 σ4 H4 env4 M4 _ _ rn4 hr4 f4 fun b M5 H5 f5 g5 hr5 => ?_
    split at f5
    · rename_i eb
      rw [if_pos eb]
      refine he S2 σ4 H5 env4 M5 _ _ (rn4.same g5.same) hr5 f5 fun y M6 v H6 f6 g6 rd6 hr6 => ?_
      have gg := ((g3.trans g4).trans g5).trans g6
      have at6 : H6 D = some (.lst av) := by rw [gg.hold D s2D]; exact at2
      have ra6 := RDs.same gg.same _ _ ra2
      have hidE : ∀ o, hid S2 M6 (upd H6 D o) = hid S2 M6 H6 := fun o => by
        funext z
        by_cases c : z = D
        · subst c
          unfold hid
          rw [s2D]
          simp
        · unfold hid
          rw [upd_ne c]
      refine ⟨av, at6, by rw [ra2.len]; omega, acc ++ [y], M6, av ++ [v], f6, upd_same, by rw [hidE]; exact ra6.app (.cons rd6 .nil), ⟨fun z o e => ?_, fun z hz => ?_⟩, by rw [hidE]; exact same2.trans gg.same, fun z hz => ?_, by rw [List.length_append]; simp; omega⟩
      · obtain ⟨u, y1, y2⟩ := hr6.obj z o e
        have n : z ≠ D := fun w => by subst w; rw [(hr6.apart _ s2D).1] at e; cases e
        exact ⟨u, by rw [upd_ne n]; exact y1, by rw [hidE]; exact y2⟩
      · obtain ⟨y1, y2⟩ := hr6.apart z hz
        refine ⟨y1, ?_⟩
        by_cases c : z = D
        · subst c
          rw [upd_same]
          exact fun w => by cases w
        · rw [upd_ne c]
          exact y2
      · have n : z ≠ D := fun w => by subst w; rw [sD] at hz; cases hz
        rw [upd_ne n, gg.hold z (s2S z hz)]
        exact hold2 z hz
    · rename_i eb
      rw [if_neg eb]
      have gg := (g3.trans g4).trans g5
      exact ⟨acc, M5, av, f5, by rw [gg.hold D s2D]; exact at2, RDs.same gg.same _ _ ra2, hr5, same2.trans gg.same, fun z hz => by rw [gg.hold z (s2S z hz)]; exact hold2 z hz, by omega⟩
  · subst heq
    refine .inl ⟨wk.stop S2 M2 H2 same2 hr2 (hin _ _ _ h2), ?_⟩
    have m2D : M2 D = none := (hr2.apart D s2D).1
    have up : Same (hid S2 M2 H2) (hid S M2 H2) := fun z o e => by
      obtain ⟨y1, y2, y3⟩ := hid_some e
      rw [hid_of (by cases c : S z with | false => rfl | true => rw [s2S z c] at y2; cases y2) y3]
      exact y1
    refine q _ M2 _ H2 (fin _ _ h2) (g1.trans ⟨same2.trans up, hold2⟩) (.lst (by rw [hid_of sD m2D]; exact at2) (RDs.same up _ _ ra2)) ⟨fun z o e => ?_, fun z hz => ?_⟩
    · obtain ⟨u, y1, y2⟩ := hr2.obj z o e
      exact ⟨u, y1, y2.same up⟩
    · exact hr2.apart z (s2S z hz)
/-- a comprehension's block: for whatever place it runs at -/
theorem d_lc {elt it : Expr} {ifs : List Expr} {scope : Scope} {own : List (Str × Nat)} {wi : TI} {g : TG} {tT : TT} {ws : List Nat} {W : DI} {Fg : DG} {T : DT} (hc : X.calm = true) (hN : X.N.Nodup) (hi : Wk X tg it wi W) (ok : BlkOk X.N X.env.scope scope own)
    (hg : ∀ (s : Shared) (H : Hp) (C : Addr) (cl : List (Str × Addr)) (fp : List Addr), Tg (X.blk s H scope (compEnvC scope cl C X.env) fp) tg g ws Fg) (ht : ∀ (s : Shared) (H : Hp) (C : Addr) (cl : List (Str × Addr)) (fp : List Addr), PTs (X.blk s H scope (compEnvC scope cl C X.env) fp) ifs tT) (htr : RT X.K tT T)
    (he : ∀ (s : Shared) (H : Hp) (C : Addr) (cl : List (Str × Addr)) (fp : List Addr), Ex (X.blk s H scope (compEnvC scope cl C X.env) fp) elt te A) (hw : ∀ i, i ∈ ws → i ∈ own.map (·.2) := by decide) (hs : ∀ x, foldedSetIterable it X.env x = pure x := by intro _; rfl) :
    Ex X (.ListComp elt [⟨tg, it, ifs, 0⟩] scope pos) (tLc wi g tT te (own.map (·.2))) (dLc W Fg T A (own.map (·.2))) := by
  refine ⟨pe_lc hc hN hi.p ok (fun s H C cl fp => (hg s H C cl fp).p) ht (fun s H C cl fp => (he s H C cl fp).p) hs, ?_⟩
  exact RE.lc hi.r (hg X.s_0 X.H_0 0 [] []).r htr (he X.s_0 X.H_0 0 [] []).r hw
theorem s_setLc {i : Nat} {y : Str} {py spos : Pos} {elt it : Expr} {ifs : List Expr} {scope : Scope} {own : List (Str × Nat)} {wi : TI} {g : TG} {tT : TT} {ws : List Nat} {W : DI} {Fg : DG} {T : DT} (hc : X.calm = true) (hN : X.N.Nodup) (hy : X.N[i]? = some y) (hyl : X.env.scope.names.lookup y = some .local)
    (hsw : swapsWith (.ListComp elt [⟨tg, it, ifs, 0⟩] scope pos) (some (.Name y py)) spos.line X.env = pure true) (hi : Wk X tg it wi W) (ok : BlkOk X.N X.env.scope scope own)
    (hg : ∀ (s : Shared) (H : Hp) (C : Addr) (cl : List (Str × Addr)) (fp : List Addr), Tg (X.blk s H scope (compEnvC scope cl C X.env) fp) tg g ws Fg) (ht : ∀ (s : Shared) (H : Hp) (C : Addr) (cl : List (Str × Addr)) (fp : List Addr), PTs (X.blk s H scope (compEnvC scope cl C X.env) fp) ifs tT) (htr : RT X.K tT T)
    (he : ∀ (s : Shared) (H : Hp) (C : Addr) (cl : List (Str × Addr)) (fp : List Addr), Ex (X.blk s H scope (compEnvC scope cl C X.env) fp) elt te A) (hw : ∀ i, i ∈ ws → i ∈ own.map (·.2) := by decide) (hs : ∀ x, foldedSetIterable it X.env x = pure x := by intro _; rfl) :
    Sm X (.Assign [.Name y py] (.ListComp elt [⟨tg, it, ifs, 0⟩] scope pos) spos) (tAsg (tLc wi g tT te (own.map (·.2))) (gName i)) (dSet i (dLc W Fg T A (own.map (·.2)))) := by
  refine ⟨ps_setLc hc hN hy hyl hsw hi.p ok (fun s H C cl fp => (hg s H C cl fp).p) ht (fun s H C cl fp => (he s H C cl fp).p) hs, ?_⟩
  have r := RE.lc hi.r (hg X.s_0 X.H_0 0 [] []).r htr (he X.s_0 X.H_0 0 [] []).r hw
  intro S σ H env M D E rn hr f c
  refine r S σ H env M _ _ rn hr f fun d M' v H' e g rd hr' => ?_
  exact c.nx _ M' _ H' e g ((rn.same g.same).set rd i) hr'
theorem rt_yes {K : PySem.W.Frag} : RT K tYes dYes := fun S σ H env M Q R rn hr f q => q true M H f Gr.refl hr
end
/-! ## equality of data -/
mutual
def toP : Dv → PyData
  | .non => .none
  | .bl b => .bool b
  | .int i => .int i
  | .str x => .str x
  | .tup ds => .tuple (toPs ds)
  | .lst ds => .list (toPs ds)
  | .scr ns => .list (ns.map .int)
  | .ref _ => .none
  | .ty _ => .none
def toPs : List Dv → List PyData
  | [] => []
  | d :: ds => toP d :: toPs ds
end
mutual
/-- no object, no class in it -/
def datD : Dv → Bool
  | .tup ds => datDs ds
  | .lst ds => datDs ds
  | .ref _ => false
  | .ty _ => false
  | _ => true
def datDs : List Dv → Bool
  | [] => true
  | d :: ds => datD d && datDs ds
end
theorem dpInts {K : PySem.W.Frag} {H : Hp} : ∀ ns : List Int, DpAll K H (ns.map V.int) (ns.map PyData.int)
  | [] => .nil
  | n :: r => .cons (.int n) (dpInts r)
mutual
theorem RD.dp {K : PySem.W.Frag} {S : Addr → Bool} {M : MH} {H : Hp} : ∀ (d : Dv) (v : V), datD d = true → RD K (hid S M H) v d → Dp K H v (toP d)
  | .non, _, _, h => by cases h; exact .non
  | .bl b, _, _, h => by cases h; exact .bl b
  | .int i, _, _, h => by cases h; exact .int i
  | .str x, _, _, h => by cases h; exact .str x
  | .tup ds, _, o, h => by
    cases h with
    | tup ha ra => exact .tup (sqT_hid ha) (RDs.dp ds _ (by simpa [datD] using o) ra)
  | .lst ds, _, o, h => by
    cases h with
    | lst ha ra => exact .lst (SqL.of (hid_some ha).1) (RDs.dp ds _ (by simpa [datD] using o) ra)
  | .scr ns, _, _, h => by
    cases h with
    | scr ha => exact .lst (sqL_hid ha) (dpInts ns)
  | .ref _, _, o, _ => by simp [datD] at o
  | .ty _, _, o, _ => by simp [datD] at o
theorem RDs.dp {K : PySem.W.Frag} {S : Addr → Bool} {M : MH} {H : Hp} : ∀ (ds : List Dv) (vs : List V), datDs ds = true → RDs K (hid S M H) vs ds → DpAll K H vs (toPs ds)
  | [], _, _, h => by cases h; exact .nil
  | d :: ds, _, o, h => by
    have o' : datD d = true ∧ datDs ds = true := by simpa [datDs] using o
    cases h with
    | cons a b => exact .cons (RD.dp d _ o'.1 a) (RDs.dp ds _ o'.2 b)
end
/-- data that may be compared -/
def shp (d : Dv) : Bool := datD d && SeqAt.shaped (toP d)
/-- the equality of scalars, where no kinds are mixed that may be equal -/
def eqS : Dv → Dv → Option Bool
  | .non, .non => some true
  | .int i, .int j => some (decide (i = j))
  | .bl i, .bl j => some (decide (i = j))
  | .str i, .str j => some (decide (i = j))
  | .non, .int _ => some false
  | .int _, .non => some false
  | .non, .bl _ => some false
  | .bl _, .non => some false
  | .non, .str _ => some false
  | .str _, .non => some false
  | .int _, .str _ => some false
  | .str _, .int _ => some false
  | .bl _, .str _ => some false
  | .str _, .bl _ => some false
  | _, _ => none
def gEq (k : Bool → Bool) : DO := fun x y M Q => match eqS x y with
  | some b => Q (.bl (k b)) M
  | none => shp x = true ∧ shp y = true ∧ Q (.bl (k (PyData.eqv (toP x) (toP y)))) M
theorem eqS_rd {K : PySem.W.Frag} {G : Hp} {x y : V} {dx dy : Dv} {b : Bool} (hx : RD K G x dx) (hy : RD K G y dy) (e : eqS dx dy = some b) : scal x y = true ∧ decide (x = y) = b := by
  unfold eqS at e
  split at e <;> first
    | (cases e; done)
    | (cases hx; cases hy; cases e; refine ⟨rfl, ?_⟩; first | rfl | simp | (apply decide_eq_decide.mpr; simp))
section
variable {X : Cx}
abbrev rEqA (K : PySem.W.Frag) : R2 := fun x y H Q => rEq x y H Q ∨ rEqD K x y H Q
abbrev rNeA (K : PySem.W.Frag) : R2 := fun x y H Q => rNe x y H Q ∨ rNeD K x y H Q
theorem o_eq (hu : X.A.units + 64 < cLine) : Op X (compareOp .Eq) (rEqA X.K) (gEq fun b => b) := by
  refine ⟨opr_or op_eq (op_eqD hu), ?_⟩
  intro S H x y dx dy M Q R rx ry hr f q
  unfold gEq at f
  split at f
  · rename_i e
    obtain ⟨e1, e2⟩ := eqS_rd rx ry e
    exact .inl ⟨e1, by rw [e2]; exact q _ M _ H f Gr.refl (.bl _) hr⟩
  · obtain ⟨h1, h2, f⟩ := f
    unfold shp at h1 h2
    rw [Bool.and_eq_true] at h1 h2
    exact .inr ⟨_, _, RD.dp _ _ h1.1 rx, RD.dp _ _ h2.1 ry, h1.2, h2.2, q _ M _ H f Gr.refl (.bl _) hr⟩
theorem o_ne (hu : X.A.units + 64 < cLine) : Op X (compareOp .NotEq) (rNeA X.K) (gEq fun b => !b) := by
  refine ⟨opr_or op_ne (op_neD hu), ?_⟩
  intro S H x y dx dy M Q R rx ry hr f q
  unfold gEq at f
  split at f
  · rename_i e
    obtain ⟨e1, e2⟩ := eqS_rd rx ry e
    exact .inl ⟨e1, by rw [e2]; exact q _ M _ H f Gr.refl (.bl _) hr⟩
  · obtain ⟨h1, h2, f⟩ := f
    unfold shp at h1 h2
    rw [Bool.and_eq_true] at h1 h2
    exact .inr ⟨_, _, RD.dp _ _ h1.1 rx, RD.dp _ _ h2.1 ry, h1.2, h2.2, q _ M _ H f Gr.refl (.bl _) hr⟩
/-! ## is None -/
def isNonD : Dv → Bool
  | .non => true
  | _ => false
theorem isNon_rd {K : PySem.W.Frag} {G : Hp} {x : V} {d : Dv} (h : RD K G x d) : decide (x = .non) = isNonD d := by
  cases h <;> simp [isNonD]
def gIsN (k : Bool → Bool) : DO := fun x y M Q => match y with | .non => Q (.bl (k (isNonD x))) M | _ => False
end
end Vk
set_option linter.unusedVariables false
namespace Vk
open PySem PySem.Spec PyProof.Rows L2
/-! # The data layer: in, is, kinds, match, lists that change -/
theorem gEq_or {K : PySem.W.Frag} : True := trivial
section
variable {X : Cx} {a b c e o : Expr} {es : List Expr} {ta tb tc te to_ : TE} {ti tj : TT} {tt : TA} {n k j : Nat} {A B C D : DE} {I J : DT} {G : DA} {pos p apos : Pos} {F : DF} {x : Str} {sts : List Stmt} {t : TS} {T : DS}
/-! ## in -/
def flatD : Dv → Bool
  | .non => true
  | .bl _ => true
  | .int _ => true
  | .str _ => true
  | _ => false
def eqF : Dv → Dv → Bool
  | .non, .non => true
  | .bl a, .bl b => a == b
  | .bl a, .int b => (if a then 1 else 0) == b
  | .int a, .bl b => a == (if b then 1 else 0)
  | .int a, .int b => a == b
  | .str a, .str b => a == b
  | _, _ => false
/-- the items of data -/
def itsD (M : MH) : Dv → Option (List Dv)
  | .tup ds => some ds
  | .lst ds => some ds
  | .scr ns => some (ns.map .int)
  | .ref p => match M p with
    | some (.lst ds) => some ds
    | _ => none
  | _ => none
@[irreducible] def gIn (k : Bool → Bool) : DO := fun x y M Q => match itsD M y with
  | some ds => if (flatD x && ds.all flatD) = true then Q (.bl (k (ds.any fun z => eqF z x))) M else shp x = true ∧ shp (.lst ds) = true ∧ Q (.bl (k ((toPs ds).any fun z => PyData.eqv z (toP x)))) M
  | none => False
theorem flat_rd {K : PySem.W.Frag} {G : Hp} {v : V} {d : Dv} (h : RD K G v d) (f : flatD d = true) : flatV v = true := by
  cases h <;> first | rfl | (simp [flatD] at f)
theorem flats_rd {K : PySem.W.Frag} {G : Hp} : ∀ {vs : List V} {ds : List Dv}, RDs K G vs ds → ds.all flatD = true → vs.all flatV = true
  | _, _, .nil, _ => rfl
  | _, _, .cons a b, f => by
    rw [List.all_cons, Bool.and_eq_true] at f ⊢
    exact ⟨flat_rd a f.1, flats_rd b f.2⟩
theorem eqF_rd {K : PySem.W.Frag} {G : Hp} {v w : V} {d e : Dv} (h : RD K G v d) (h2 : RD K G w e) (f : flatD d = true) (f2 : flatD e = true) : eqV v w = eqF d e := by
  cases h <;> first | (simp [flatD] at f; done) | (cases h2 <;> first | (simp [flatD] at f2; done) | rfl)
theorem inF_rd {K : PySem.W.Frag} {G : Hp} {w : V} {e : Dv} (h2 : RD K G w e) (f2 : flatD e = true) : ∀ {vs : List V} {ds : List Dv}, RDs K G vs ds → ds.all flatD = true → (vs.any fun y => eqV y w) = ds.any fun y => eqF y e
  | _, _, .nil, _ => rfl
  | _, _, .cons a b, f => by
    rw [List.all_cons, Bool.and_eq_true] at f
    rw [List.any_cons, List.any_cons, eqF_rd a h2 f.1 f2, inF_rd h2 f2 b f.2]
theorem its_rd {K : PySem.W.Frag} {S : Addr → Bool} {M : MH} {H : Hp} {v : V} {d : Dv} {ds : List Dv} (hr : HR K S M H) (h : RD K (hid S M H) v d) (e : itsD M d = some ds) :
    ∃ a vs, v = .ref a ∧ (SqL K H a vs ∨ SqT K H a vs) ∧ RDs K (hid S M H) vs ds := by
  cases h with
  | tup ha ra => cases e; exact ⟨_, _, rfl, .inr (sqT_hid ha), ra⟩
  | lst ha ra => cases e; exact ⟨_, _, rfl, .inl (SqL.of (hid_some ha).1), ra⟩
  | scr ha => cases e; exact ⟨_, _, rfl, .inl (sqL_hid ha), RDs.ints _⟩
  | ref p =>
    unfold itsD at e
    simp only at e
    split at e
    · rename_i e1
      cases e
      obtain ⟨u, z1, z2⟩ := hr.obj _ _ e1
      cases z2 with
      | lst ra => exact ⟨_, _, rfl, .inl (SqL.of z1), ra⟩
    · cases e
  | _ => cases e
def rInA (K : PySem.W.Frag) : R2 := fun x y H Q => ∃ d ds, Dp K H x d ∧ (Dp K H y (.list ds) ∨ Dp K H y (.tuple ds)) ∧ SeqAt.shaped d = true ∧ SeqAt.shaped (.list ds) = true ∧ Q (.bl (ds.any fun z => PyData.eqv z d)) H
def rNotInA (K : PySem.W.Frag) : R2 := fun x y H Q => ∃ d ds, Dp K H x d ∧ (Dp K H y (.list ds) ∨ Dp K H y (.tuple ds)) ∧ SeqAt.shaped d = true ∧ SeqAt.shaped (.list ds) = true ∧ Q (.bl (!ds.any fun z => PyData.eqv z d)) H
theorem op_inA (hu : X.A.units + 65 < cLine) : OpR X (compareOp .In) (rInA X.K) := by
  intro pins s σ H x y v u Q I rx ry h
  obtain ⟨d, ds, hd, he, sd, se, q⟩ := h
  obtain ⟨as, r1⟩ := Dp.reads I d x v hd rx
  rcases he with he | he
  · obtain ⟨bs, r2⟩ := Dp.reads I (.list ds) y u he ry
    exact SeqAt.in_list_reads r2 r1 (SeqAt.canLay_of_shaped se) (SeqAt.canLay_of_shaped sd) (room_in_shaped sd hu) ⟨.bl _, H, I, rfl, q⟩
  · obtain ⟨bs, r2⟩ := Dp.reads I (.tuple ds) y u he ry
    exact SeqAt.in_tuple_reads r2 r1 (SeqAt.canLay_of_shaped se) (SeqAt.canLay_of_shaped sd) (room_in_shaped sd hu) ⟨.bl _, H, I, rfl, q⟩
theorem op_notInA (hu : X.A.units + 65 < cLine) : OpR X (compareOp .NotIn) (rNotInA X.K) := by
  intro pins s σ H x y v u Q I rx ry h
  obtain ⟨d, ds, hd, he, sd, se, q⟩ := h
  obtain ⟨as, r1⟩ := Dp.reads I d x v hd rx
  rcases he with he | he
  · obtain ⟨bs, r2⟩ := Dp.reads I (.list ds) y u he ry
    exact SeqAt.notIn_list_reads r2 r1 (SeqAt.canLay_of_shaped se) (SeqAt.canLay_of_shaped sd) (room_in_shaped sd hu) ⟨.bl _, H, I, rfl, q⟩
  · obtain ⟨bs, r2⟩ := Dp.reads I (.tuple ds) y u he ry
    exact SeqAt.notIn_tuple_reads r2 r1 (SeqAt.canLay_of_shaped se) (SeqAt.canLay_of_shaped sd) (room_in_shaped sd hu) ⟨.bl _, H, I, rfl, q⟩
theorem its_dp {K : PySem.W.Frag} {S : Addr → Bool} {M : MH} {H : Hp} {v : V} {d : Dv} {ds : List Dv} (hr : HR K S M H) (h : RD K (hid S M H) v d) (e : itsD M d = some ds) (o : datDs ds = true) : Dp K H v (.list (toPs ds)) ∨ Dp K H v (.tuple (toPs ds)) := by
  cases h with
  | tup ha ra => cases e; exact .inr (.tup (sqT_hid ha) (RDs.dp _ _ o ra))
  | lst ha ra => cases e; exact .inl (.lst (SqL.of (hid_some ha).1) (RDs.dp _ _ o ra))
  | scr ha => cases e; exact .inl (.lst (sqL_hid ha) (RDs.dp (S := S) (M := M) _ _ o (RDs.ints _)))
  | ref p =>
    unfold itsD at e
    simp only at e
    split at e
    · rename_i e1
      cases e
      obtain ⟨u, z1, z2⟩ := hr.obj _ _ e1
      cases z2 with
      | lst ra => exact .inl (.lst (SqL.of z1) (RDs.dp _ _ o ra))
    · cases e
  | _ => cases e
abbrev rInB (K : PySem.W.Frag) : R2 := fun x y H Q => rIn K false x y H Q ∨ rInA K x y H Q
abbrev rNotInB (K : PySem.W.Frag) : R2 := fun x y H Q => rIn K true x y H Q ∨ rNotInA K x y H Q
theorem o_in (hu : X.A.units + 65 < cLine) : Op X (compareOp .In) (rInB X.K) (gIn fun b => b) := by
  refine ⟨opr_or op_in_seq (op_inA hu), ?_⟩
  intro S H x y dx dy M Q R rx ry hr f q
  unfold gIn at f
  split at f
  · rename_i ds e
    split at f
    · rename_i fl
      rw [Bool.and_eq_true] at fl
      obtain ⟨a, vs, rfl, h1, h2⟩ := its_rd hr ry e
      refine .inl ⟨a, vs, rfl, h1, flat_rd rx fl.1, flats_rd h2 fl.2, ?_⟩
      show Q (.bl (inV x vs)) H
      unfold inV
      rw [inF_rd rx fl.1 h2 fl.2]
      exact q _ M _ H f Gr.refl (.bl _) hr
    · obtain ⟨h1, h2, f⟩ := f
      unfold shp at h1 h2
      rw [Bool.and_eq_true] at h1 h2
      have h3 : datDs ds = true := by simpa [datD] using h2.1
      exact .inr ⟨_, _, RD.dp _ _ h1.1 rx, its_dp hr ry e h3, h1.2, by simpa [toP] using h2.2, q _ M _ H f Gr.refl (.bl _) hr⟩
  · exact f.elim
theorem o_notIn (hu : X.A.units + 65 < cLine) : Op X (compareOp .NotIn) (rNotInB X.K) (gIn fun b => !b) := by
  refine ⟨opr_or op_notIn_seq (op_notInA hu), ?_⟩
  intro S H x y dx dy M Q R rx ry hr f q
  unfold gIn at f
  split at f
  · rename_i ds e
    split at f
    · rename_i fl
      rw [Bool.and_eq_true] at fl
      obtain ⟨a, vs, rfl, h1, h2⟩ := its_rd hr ry e
      refine .inl ⟨a, vs, rfl, h1, flat_rd rx fl.1, flats_rd h2 fl.2, ?_⟩
      show Q (.bl (!inV x vs)) H
      unfold inV
      rw [inF_rd rx fl.1 h2 fl.2]
      exact q _ M _ H f Gr.refl (.bl _) hr
    · obtain ⟨h1, h2, f⟩ := f
      unfold shp at h1 h2
      rw [Bool.and_eq_true] at h1 h2
      have h3 : datDs ds = true := by simpa [datD] using h2.1
      exact .inr ⟨_, _, RD.dp _ _ h1.1 rx, its_dp hr ry e h3, h1.2, by simpa [toP] using h2.2, q _ M _ H f Gr.refl (.bl _) hr⟩
  · exact f.elim
/-! ## is -/
theorem o_isN : Op X (compareOp .Is) (fun x y H Q => y = .non ∧ Q (.bl (decide (x = .non))) H) (gIsN fun b => b) := by
  refine ⟨op_isN, ?_⟩
  intro S H x y dx dy M Q R rx ry hr f q
  unfold gIsN at f
  split at f
  · cases ry
    exact ⟨rfl, by rw [isNon_rd rx]; exact q _ M _ H f Gr.refl (.bl _) hr⟩
  · exact f.elim
theorem o_notN : Op X (compareOp .IsNot) (fun x y H Q => y = .non ∧ Q (.bl (!decide (x = .non))) H) (gIsN fun b => !b) := by
  refine ⟨op_notN, ?_⟩
  intro S H x y dx dy M Q R rx ry hr f q
  unfold gIsN at f
  split at f
  · cases ry
    exact ⟨rfl, by rw [isNon_rd rx]; exact q _ M _ H f Gr.refl (.bl _) hr⟩
  · exact f.elim
def gIsB (k : Bool → Bool) : DO := fun x y M Q => match x, y with | .bl a, .bl b => Q (.bl (k (decide (a = b)))) M | _, _ => False
theorem o_isB : Op X (compareOp .Is) (fun x y H Q => ∃ a b, x = .bl a ∧ y = .bl b ∧ Q (.bl (decide (a = b))) H) (gIsB fun b => b) := by
  refine ⟨op_is_bl, ?_⟩
  intro S H x y dx dy M Q R rx ry hr f q
  unfold gIsB at f
  split at f
  · cases rx
    cases ry
    exact ⟨_, _, rfl, rfl, q _ M _ H f Gr.refl (.bl _) hr⟩
  · exact f.elim
theorem o_notB : Op X (compareOp .IsNot) (fun x y H Q => ∃ a b, x = .bl a ∧ y = .bl b ∧ Q (.bl (!decide (a = b))) H) (gIsB fun b => !b) := by
  refine ⟨op_isnot_bl, ?_⟩
  intro S H x y dx dy M Q R rx ry hr f q
  unfold gIsB at f
  split at f
  · cases rx
    cases ry
    exact ⟨_, _, rfl, rfl, q _ M _ H f Gr.refl (.bl _) hr⟩
  · exact f.elim
/-! ## type(x) is T -/
@[irreducible] def gTy : DL := fun ds M Q => match ds with
  | [.scr _] => False
  | [d] => match tyN M d with | some n => Q (.ty n) M | none => False
  | _ => False
theorem c_type : Cb X (.type "type") (rTypX X.K) gTy := by
  refine ⟨call_typX, ?_⟩
  intro S H vs ds M Q R rs hr f q
  unfold gTy at f
  split at f
  · exact f.elim
  · rename_i d ns
    obtain ⟨v, rfl, rd⟩ := rs.one
    split at f
    · rename_i e
      have go : Q (.ty _) H := q _ M _ H f Gr.refl (.ty _) hr
      cases rd with
      | non => cases e; exact typ_go rfl go
      | bl b => cases e; exact typ_go rfl go
      | int i => cases e; exact typ_go rfl go
      | str x => cases e; exact typ_go rfl go
      | tup ha ra => cases e; exact typ_goT (sqT_hid ha) go
      | lst ha ra => cases e; exact typ_go (by simp only [zTyV, (hid_some ha).1]) go
      | scr ha => exact (ns _ rfl).elim
      | ref a =>
        unfold tyN at e
        simp only at e
        split at e
        · rename_i e1
          cases e
          obtain ⟨w, z1, z2⟩ := hr.obj _ _ e1
          cases z2
          exact typ_go (by simp only [zTyV, z1]) go
        · rename_i e1
          cases e
          obtain ⟨w, z1, z2⟩ := hr.obj _ _ e1
          cases z2
          exact typ_goD z1 go
        · cases e
      | ty m => cases e
    · exact f.elim
  · exact f.elim
def gIsTy : DO := fun x y M Q => match x, y with | .ty a, .ty b => Q (.bl (decide (a = b))) M | _, _ => False
theorem o_isTy : Op X (compareOp .Is) (fun x y H Q => ∃ m n, x = .ty m ∧ y = .ty n ∧ Q (.bl (decide (m = n))) H) gIsTy := by
  refine ⟨op_isTy, ?_⟩
  intro S H x y dx dy M Q R rx ry hr f q
  unfold gIsTy at f
  split at f
  · cases rx
    cases ry
    exact ⟨_, _, rfl, rfl, q _ M _ H f Gr.refl (.bl _) hr⟩
  · exact f.elim
/-! ## match -/
inductive DPat where
  | lit (s : Str)
  | name
  | any
/-- is the data this word; none: it is not known -/
def eqLit (d : Dv) (s : Str) : Option Bool := match d with
  | .str x => some (decide (x = s))
  | .non => some false
  | .bl _ => some false
  | .int _ => some false
  | d => if shp d = true then some false else none
def matchP : List DPat → List Dv → Option (Option (List Dv))
  | [], _ => some (some [])
  | _ :: _, [] => none
  | .lit s :: ps, d :: ds => match eqLit d s with
    | none => none
    | some false => some none
    | some true => matchP ps ds
  | .name :: ps, d :: ds => match matchP ps ds with
    | some (some cs) => some (some (d :: cs))
    | r => r
  | .any :: ps, _ :: ds => matchP ps ds
def RPs (K : PySem.W.Frag) (t : TPs) (ps : List DPat) : Prop := ∀ (S : Addr → Bool) (H : Hp) (M : MH) (vs : List V) (ds : List Dv) (Q : Option (List V) → Hp → Prop), ds.length = ps.length → RDs K (hid S M H) vs ds → HR K S M H →
  (match matchP ps ds with | none => False | some none => Q none H | some (some cs) => ∀ ws, RDs K (hid S M H) ws cs → Q (some ws) H) → t vs H Q
structure Pats (X : Cx) (ps : List Pattern) (ns : List Str) (t : TPs) (q : List DPat) : Prop where
  p : PPs X ps ns t
  r : RPs X.K t q
theorem eqv_strD (d : PyData) (s : Str) : PyData.eqv d (.str s) = (match d with | .str x => x == s | _ => false) := by
  cases d <;> simp [PyData.eqv]
theorem ps0 : Pats X [] [] tPNil [] := by
  refine ⟨pps_nil, ?_⟩
  intro S H M vs ds Q hl rs hr f
  cases ds with
  | nil => cases rs; exact ⟨rfl, f [] .nil⟩
  | cons _ _ => cases hl
def kLit (t : TPs) (vs : List V) (Q : Option (List V) → Hp → Prop) : Option (List V) → Hp → Prop := fun o H1 => match o with
  | none => Q none H1
  | some ws => t vs H1 fun o2 H2 => match o2 with
    | none => Q none H2
    | some zs => Q (some (ws ++ zs)) H2
theorem RPs.lit {K : PySem.W.Frag} {s : Str} {t : TPs} {q : List DPat} (h : RPs K t q) (hs : SeqAt.shaped (.str s) = true) : RPs K (tPCons (tPLit (rEqA K) (.str s)) t) (.lit s :: q) := by
  intro S H M vs ds Q hl rs hr f
  cases rs with
  | nil => cases hl
  | @cons v d vs ds a b =>
    refine ⟨v, vs, rfl, ?_⟩
    show (rEqA K) v (.str s) H fun b H1 => ∃ c, b = .bl c ∧ kLit t vs Q (if c = true then some [] else none) H1
    cases er : eqLit d s with
    | none =>
      rw [matchP, er] at f
      exact f.elim
    | some r =>
      have fin : ∀ c : Bool, c = r → kLit t vs Q (if c = true then some [] else none) H := by
        rintro c rfl
        rw [matchP, er] at f
        cases c with
        | false => exact f
        | true =>
          show t vs H _
          refine h S H M vs ds _ (by simpa using hl) b hr ?_
          cases e : matchP q ds with
          | none => rw [e] at f; exact f.elim
          | some o =>
            rw [e] at f
            cases o with
            | none => exact f
            | some cs => exact fun ws hw => f ws hw
      have other : ∀ (hd : datD d = true) (sd : SeqAt.shaped (toP d) = true) (ne : PyData.eqv (toP d) (.str s) = r), (rEqA K) v (.str s) H fun b H1 => ∃ c, b = .bl c ∧ kLit t vs Q (if c = true then some [] else none) H1 :=
        fun hd sd ne => .inr ⟨_, _, RD.dp _ _ hd a, .str s, sd, hs, _, rfl, fin _ ne⟩
      cases a with
      | non => cases er; exact .inl ⟨rfl, _, rfl, fin _ (decide_eq_false (by simp))⟩
      | bl b => cases er; exact .inl ⟨rfl, _, rfl, fin _ (decide_eq_false (by simp))⟩
      | int i => cases er; exact .inl ⟨rfl, _, rfl, fin _ (decide_eq_false (by simp))⟩
      | str y =>
        cases er
        refine .inl ⟨rfl, _, rfl, fin _ ?_⟩
        apply decide_eq_decide.mpr
        simp
      | ref p => simp [eqLit, shp, datD] at er
      | ty p => simp [eqLit, shp, datD] at er
      | _ =>
        unfold eqLit at er
        simp only at er
        split at er
        · rename_i e
          cases er
          unfold shp at e
          rw [Bool.and_eq_true] at e
          refine other e.1 e.2 ?_
          rw [eqv_strD]
          rfl
        · cases er
theorem ps_lit {s : Str} {jj : Nat} {p1 p2 : Pos} {ps : List Pattern} {ns : List Str} {t : TPs} {q : List DPat} (hu : X.A.units + 64 < cLine) (h : Pats X ps ns t q) (hs : SeqAt.shaped (.str s) = true := by decide +kernel) :
    Pats X (.MatchValue (.Constant (.str s) jj p1) p2 :: ps) ([] ++ ns) (tPCons (tPLit (rEqA X.K) (.str s)) t) (.lit s :: q) :=
  ⟨pps_cons (ppt_lit (y := .str s) pe_str (opr_or op_eq (op_eqD hu))) h.p, RPs.lit h.r hs⟩
theorem ps_name {s : Str} {p1 : Pos} {ps : List Pattern} {ns : List Str} {t : TPs} {q : List DPat} (h : Pats X ps ns t q) : Pats X (.MatchAs none (some s) p1 :: ps) ([s] ++ ns) (tPCons tPName t) (.name :: q) := by
  refine ⟨pps_cons ppt_name h.p, ?_⟩
  intro S H M vs ds Q hl rs hr f
  cases rs with
  | nil => cases hl
  | @cons v d vs ds a b =>
    refine ⟨v, vs, rfl, ?_⟩
    show t vs H fun o2 H2 => match o2 with | none => Q none H2 | some zs => Q (some ([v] ++ zs)) H2
    refine h.r S H M vs ds _ (by simpa using hl) b hr ?_
    rw [matchP] at f
    cases e : matchP q ds with
    | none => rw [e] at f; exact f.elim
    | some o =>
      rw [e] at f
      cases o with
      | none => exact f
      | some cs => exact fun ws hw => f (v :: ws) (.cons a hw)
theorem ps_any {p1 : Pos} {ps : List Pattern} {ns : List Str} {t : TPs} {q : List DPat} (h : Pats X ps ns t q) : Pats X (.MatchAs none none p1 :: ps) ([] ++ ns) (tPCons tPAny t) (.any :: q) := by
  refine ⟨pps_cons ppt_any h.p, ?_⟩
  intro S H M vs ds Q hl rs hr f
  cases rs with
  | nil => cases hl
  | @cons v d vs ds a b =>
    refine ⟨v, vs, rfl, ?_⟩
    show t vs H fun o2 H2 => match o2 with | none => Q none H2 | some zs => Q (some ([] ++ zs)) H2
    refine h.r S H M vs ds _ (by simpa using hl) b hr ?_
    rw [matchP] at f
    cases e : matchP q ds with
    | none => rw [e] at f; exact f.elim
    | some o =>
      rw [e] at f
      cases o with
      | none => exact f
      | some cs => exact fun ws hw => f ws hw
/-- names -/
structure Bds (X : Cx) (ns : List Str) (g : TGs) (ws : List Nat) (F : DGs) : Prop where
  p : PB X ns g
  r : RGs X.K g ws F
theorem b_nil : Bds X [] gNil [] sNil := ⟨pb_nil, RGs.nil⟩
theorem b_cons (i : Nat) {nm : Str} {ns : List Str} {g : TGs} {ws : List Nat} {F : DGs} (hN : X.N.Nodup) (h : Bds X ns g ws F) (hi : X.N[i]? = some nm := by rfl) (hx : Loc X.env.scope nm := by first | exact Or.inl rfl | exact Or.inr rfl) (hf : X.fn nm = true ∨ X.env.scope.names.lookup nm = some .local := by first | exact .inl rfl | exact .inr rfl | assumption) :
    Bds X (nm :: ns) (gCons (gName i) g) ([i] ++ ws) (sCons (sName i) F) := ⟨pb_cons hN hi hx hf h.p, RGs.cons (RG.name i) h.r⟩
abbrev DCs := Dv → DS
def RCs (K : PySem.W.Frag) (t : V → TS) (F : DCs) : Prop := ∀ (S : Addr → Bool) (σ : L2.St) (H : Hp) (env : DEnv) (M : MH) (D : Ends) (E : DEnds) (v : V) (d : Dv), RD K (hid S M H) v d → RN K (hid S M H) σ env → HR K S M H → F d E env M → Cnv K S M H E D → t v D σ H
structure Cs (X : Cx) (cs : List MatchCase) (t : V → TS) (F : DCs) : Prop where
  p : PCs X cs t
  r : RCs X.K t F
theorem cs_nil : Cs X [] (fun _ D σ H => D.nx σ H) (fun _ => dNext) := ⟨pcs_nil, fun S σ H env M D E v d rd rn hr f c => c.nx env M σ H f Gr.refl rn hr⟩
theorem cs_any {body : List Stmt} {rest : List MatchCase} {pos : Pos} (hb : Ss X body t T) : Cs X (⟨.MatchAs none none pos, none, body⟩ :: rest) (fun _ => t) (fun _ => T) := ⟨pcs_any hb.p, fun S σ H env M D E v d rd rn hr f c => hb.r S σ H env M D E rn hr f c⟩
@[irreducible] def dCase (q : List DPat) (Fs : DGs) (T : DS) (R : DCs) : DCs := fun d E env M => match d with
  | .tup ds => if ds.length = q.length then match matchP q ds with
      | none => False
      | some none => R d E env M
      | some (some cs) => Fs cs env M fun env1 M1 => T E env1 M1
    else R d E env M
  | .non => R d E env M
  | .bl _ => R d E env M
  | .int _ => R d E env M
  | .str _ => R d E env M
  | _ => False
theorem cs_seq {ps : List Pattern} {ns : List Str} {body : List Stmt} {rest : List MatchCase} {tp : TPs} {tg : TGs} {tr : V → TS} {pos : Pos} {q : List DPat} {ws : List Nat} {Fs : DGs} {R : DCs} (hc : X.calm = true) (hp : Pats X ps ns tp q) (hg : Bds X ns tg ws Fs) (hb : Ss X body t T) (hr : Cs X rest tr R)
    (hn : ps.length = q.length := by rfl) (hstar : ps.findIdx? (·.isStar) = none := by rfl) (hwild : (ps.all fun p => p.isWildcard || (p.isStar && p.names.isEmpty)) = false := by rfl) :
    Cs X (⟨.MatchSequence ps pos, none, body⟩ :: rest) (tCase X.K q.length tp tg t tr) (dCase q Fs T R) := by
  refine ⟨pcs_seq hc hp.p hg.p hb.p hr.p hn hstar hwild, ?_⟩
  intro S σ H env M D E v d rd rn hr' f c
  unfold dCase at f
  split at f
  · cases rd with
    | tup ha ra =>
      refine .inr ⟨_, _, rfl, sqT_hid ha, fun nl => ?_, fun yl => ?_⟩
      · rw [if_neg (by rw [← ra.len]; exact nl)] at f
        exact hr.r S σ H env M D E _ _ (.tup ha ra) rn hr' f c
      · rw [if_pos (by rw [← ra.len]; exact yl)] at f
        refine hp.r S H M _ _ _ (by rw [← ra.len]; exact yl) ra hr' ?_
        split at f
        · exact f.elim
        · exact hr.r S σ H env M D E _ _ (.tup ha ra) rn hr' f c
        · rename_i cs e
          intro ws hw
          refine hg.r S σ H ws cs env M _ _ hw rn hr' f fun env1 M1 σ1 H1 f1 g1 rn1 hr1 _ => ?_
          exact hb.r S σ1 H1 env1 M1 D E rn1 hr1 f1 (c.from g1)
  · cases rd; exact .inl ⟨trivial, hr.r S σ H env M D E _ _ .non rn hr' f c⟩
  · cases rd; exact .inl ⟨trivial, hr.r S σ H env M D E _ _ (.bl _) rn hr' f c⟩
  · cases rd; exact .inl ⟨trivial, hr.r S σ H env M D E _ _ (.int _) rn hr' f c⟩
  · cases rd; exact .inl ⟨trivial, hr.r S σ H env M D E _ _ (.str _) rn hr' f c⟩
  · exact f.elim
def dMatch (A : DE) (F : DCs) : DS := fun E env M => A env M fun d M1 => F d E env M1
theorem s_match {cs : List MatchCase} {tc : V → TS} {F : DCs} (h : Ex X e te A) (hc : Cs X cs tc F) : Sm X (.Match e cs pos) (tMatch te tc) (dMatch A F) := by
  refine ⟨ps_match h.p hc.p, ?_⟩
  intro S σ H env M D E rn hr f c
  refine h.r S σ H env M _ _ rn hr f fun d M1 v H1 f1 g1 r1 hr1 => ?_
  exact hc.r S σ H1 env M1 D E v d r1 (rn.same g1.same) hr1 f1 (c.from g1)
/-! ## lists that change -/
/-- a method of a list with one argument -/
def dMeth1 (A : DE) (G : DA) (g : Addr → List Dv → List Dv → MH → DK → Prop) : DE := fun env M Q => A env M fun o M1 => match o with
  | .ref p => match M1 p with
    | some (.lst _) => G env M1 fun ds M2 => match M2 p with
      | some (.lst xs) => g p xs ds M2 Q
      | _ => False
    | _ => False
  | _ => False
def RMt (K : PySem.W.Frag) (r : V → List V → Hp → VK → Prop) (g : Addr → List Dv → List Dv → MH → DK → Prop) : Prop := ∀ (S : Addr → Bool) (H : Hp) (p : Addr) (vs : List V) (xs ds : List Dv) (M : MH) (Q : VK) (R : DK), M p = some (.lst xs) → RDs K (hid S M H) vs ds → HR K S M H → g p xs ds M R →
  (∀ d M' v H', R d M' → Gr S M H M' H' → RD K (hid S M' H') v d → HR K S M' H' → Q v H') → r (.ref p) vs H Q
theorem RE.meth1 {K : PySem.W.Frag} {r : V → List V → Hp → VK → Prop} {g : Addr → List Dv → List Dv → MH → DK → Prop} (hm : RMt K r g) (h1 : RE K to_ A) (h2 : RA K tt n G) : RE K (tBM K "list" r to_ tt) (dMeth1 A G g) := by
  intro S σ H env M Q R rn hr f q
  refine h1 S σ H env M _ _ rn hr f fun o M1 v H1 f1 g1 r1 hr1 => ?_
  split at f1
  · cases r1
    split at f1
    · rename_i e1
      obtain ⟨u, z1, z2⟩ := hr1.obj _ _ e1
      cases z2 with
      | lst ra =>
        refine ⟨.inl ⟨rfl, _, SqL.of z1⟩, ?_⟩
        refine h2 S σ H1 env M1 _ _ (rn.same g1.same) hr1 f1 fun ds M2 vs H2 f2 l2 g2 r2 hr2 => ?_
        split at f2
        · rename_i e2
          exact hm S H2 _ vs _ ds M2 Q R e2 r2 hr2 f2 fun d M' v H' h k rd hr' => q d M' v H' h ((g1.trans g2).trans k) rd hr'
        · exact f2.elim
    · exact f1.elim
  · exact f1.elim
theorem RE.meth0 {K : PySem.W.Frag} {r : V → List V → Hp → VK → Prop} {g : Addr → List Dv → List Dv → MH → DK → Prop} (hm : RMt K r g) (h1 : RE K to_ A) : RE K (tBM0 K "list" r to_) (dMeth1 A dANil g) := by
  intro S σ H env M Q R rn hr f q
  refine h1 S σ H env M _ _ rn hr f fun o M1 v H1 f1 g1 r1 hr1 => ?_
  split at f1
  · cases r1
    split at f1
    · rename_i e1
      obtain ⟨u, z1, z2⟩ := hr1.obj _ _ e1
      cases z2 with
      | lst ra =>
        refine ⟨.inl ⟨rfl, _, SqL.of z1⟩, ?_⟩
        have f1 : match M1 _ with | some (.lst xs) => g _ xs [] M1 R | _ => False := f1
        split at f1
        · rename_i e2
          exact hm S H1 _ [] _ [] M1 Q R e2 .nil hr1 f1 fun d M' v H' h k rd hr' => q d M' v H' h (g1.trans k) rd hr'
        · exact f1.elim
    · exact f1.elim
  · exact f1.elim
def gApp : Addr → List Dv → List Dv → MH → DK → Prop := fun p xs ds M Q => match ds with
  | [y] => xs.length < sizeLine ∧ Q .non (mup M p (.lst (xs ++ [y])))
  | _ => False
theorem mt_app {K : PySem.W.Frag} : RMt K rAppend gApp := by
  intro S H p vs xs ds M Q R e rs hr f q
  unfold gApp at f
  split at f
  · obtain ⟨v, rfl, rd⟩ := rs.one
    obtain ⟨u, z1, z2⟩ := hr.obj _ _ e
    cases z2 with
    | lst ra =>
      obtain ⟨g, hr'⟩ := hr.put (o := .lst (_ ++ [v])) e (.lst (ra.app (.cons rd .nil)))
      exact ⟨p, _, v, rfl, rfl, z1, by rw [ra.len]; exact f.1, q _ _ _ _ f.2 g .non hr'⟩
  · exact f.elim
def gExt : Addr → List Dv → List Dv → MH → DK → Prop := fun p xs ds M Q => match ds with
  | [.lst ys] => xs.length + ys.length ≤ sizeLine ∧ Q .non (mup M p (.lst (xs ++ ys)))
  | _ => False
theorem mt_ext {K : PySem.W.Frag} : RMt K rExtend gExt := by
  intro S H p vs xs ds M Q R e rs hr f q
  unfold gExt at f
  split at f
  · obtain ⟨v, rfl, rd⟩ := rs.one
    obtain ⟨u, z1, z2⟩ := hr.obj _ _ e
    cases z2 with
    | lst ra =>
      cases rd with
      | lst hb rb =>
        obtain ⟨g, hr'⟩ := hr.put (o := .lst (_ ++ _)) e (.lst (ra.app rb))
        exact ⟨p, _, _, _, rfl, rfl, z1, (hid_some hb).1, by rw [ra.len, rb.len]; exact f.1, q _ _ _ _ f.2 g .non hr'⟩
  · exact f.elim
def gPop : Addr → List Dv → List Dv → MH → DK → Prop := fun p xs ds M Q => match ds, xs[xs.length - 1]? with
  | [], some y => Q y (mup M p (.lst xs.dropLast))
  | _, _ => False
theorem RDs.init {K : PySem.W.Frag} {G : Hp} {vs : List V} {ds : List Dv} (h : RDs K G vs ds) : RDs K G vs.dropLast ds.dropLast := by
  rw [List.dropLast_eq_take, List.dropLast_eq_take, h.len]
  exact h.take _
theorem mt_popD {K : PySem.W.Frag} : RMt K rPop gPop := by
  intro S H p vs xs ds M Q R e rs hr f q
  unfold gPop at f
  split at f
  · rename_i y ey
    cases rs
    obtain ⟨u, z1, z2⟩ := hr.obj _ _ e
    cases z2 with
    | lst ra =>
      obtain ⟨v, ev, rd⟩ := ra.at ey
      obtain ⟨g, hr'⟩ := hr.put (o := .lst _) e (.lst ra.init)
      exact ⟨p, _, v, rfl, rfl, z1, by rw [ra.len]; exact ev, q _ _ _ _ f g (RD.same g.same _ _ rd) hr'⟩
  · exact f.elim
theorem d_append (h1 : Ex X o to_ A) (h2 : As X (e :: es) tt n G) {ap : Pos} (st : starEach (e :: es) X.env = (false, eval e X.env) :: starEach es X.env := by rfl) (pl : (backTo pos (starEach es X.env)).any (·.1) = false := by rfl) (hp : PE X (.Call (.Attribute o "append" ap) (e :: es) [] pos) (tBM X.K "list" rAppend to_ tt)) :
    Ex X (.Call (.Attribute o "append" ap) (e :: es) [] pos) (tBM X.K "list" rAppend to_ tt) (dMeth1 A G gApp) := ⟨hp, RE.meth1 mt_app h1.r h2.r⟩
/-- xs[i] = v -/
def dPut (A O I : DE) : DS := fun E env M => A env M fun v M1 => O env M1 fun o M2 => I env M2 fun i M3 => match o, i with
  | .ref p, .int k => match M3 p with
    | some (.lst xs) => match ixN xs.length k with
      | some j => E.nx env (mup M3 p (.lst (xs.set j v)))
      | none => False
    | _ => False
  | _, _ => False
theorem RDs.set {K : PySem.W.Frag} {G : Hp} {v : V} {d : Dv} (r : RD K G v d) : ∀ {vs : List V} {ds : List Dv} (j : Nat), RDs K G vs ds → RDs K G (vs.set j v) (ds.set j d)
  | _, _, _, .nil => .nil
  | _, _, 0, .cons _ b => .cons r b
  | _, _, j + 1, .cons a b => .cons a (RDs.set r j b)
theorem s_putL {te2 ti2 : TE} {A O I2 : DE} {st : Stmt} (h : PS X st (tAsg te (gSub te2 ti2 rSetL))) (h1 : RE X.K te A) (h2 : RE X.K te2 O) (h3 : RE X.K ti2 I2) : Sm X st (tAsg te (gSub te2 ti2 rSetL)) (dPut A O I2) := by
  refine ⟨h, ?_⟩
  intro S σ H env M D E rn hr f c
  refine h1 S σ H env M _ _ rn hr f fun v M1 x H1 f1 g1 r1 hr1 => ?_
  refine h2 S σ H1 env M1 _ _ (rn.same g1.same) hr1 f1 fun o M2 y H2 f2 g2 r2 hr2 => ?_
  refine h3 S σ H2 env M2 _ _ (rn.same (g1.trans g2).same) hr2 f2 fun i M3 z H3 f3 g3 r3 hr3 => ?_
  split at f3
  · split at f3
    · rename_i e
      split at f3
      · rename_i j ej
        cases r2
        cases r3
        obtain ⟨u, z1, z2⟩ := hr3.obj _ _ e
        cases z2 with
        | lst ra =>
          have rx := RD.same (g2.trans g3).same _ _ r1
          obtain ⟨g, hr'⟩ := hr3.put (o := .lst _) e (.lst (ra.set rx j))
          have gg := ((g1.trans g2).trans g3).trans g
          exact ⟨_, _, _, j, rfl, rfl, z1, by rw [ra.len]; exact ej, c.nx env _ σ _ f3 gg (rn.same gg.same) hr'⟩
      · exact f3.elim
    · exact f3.elim
  · exact f3.elim
end
end Vk
set_option linter.unusedVariables false
namespace Vk
open PySem PySem.Spec PyProof.Rows L2
/-! # The data layer: texts times numbers, methods of lists, small things -/
/-- a text n times -/
def repS (z : Str) (n : Nat) : Str := ⟨(List.replicate n z.cps).foldl (· ++ ·) #[]⟩
theorem foldS (l : List (Array Nat)) : ∀ acc : Array Nat, l.foldl (· ++ ·) acc = acc ++ l.foldl (· ++ ·) #[] := by
  induction l with
  | nil => intro acc; simp
  | cons a r ih =>
    intro acc
    rw [List.foldl_cons, ih, List.foldl_cons, ih (#[] ++ a)]
    simp [Array.append_assoc]
theorem repS_size (z : Array Nat) : ∀ n, ((List.replicate n z).foldl (· ++ ·) #[]).size = n * z.size
  | 0 => by simp
  | n + 1 => by
    have ih := repS_size z n
    rw [List.replicate_succ, List.foldl_cons, foldS]
    simp only [Array.size_append, ih]
    simp only [Array.size_empty]
    rw [Nat.succ_mul]
    omega
theorem repS_length (z : Str) (n : Nat) : (repS z n).length = n * z.length := repS_size z.cps n
theorem repS_codes (z : Str) : ∀ n, (repS z n).cps.toList = (List.replicate n z.cps.toList).flatten
  | 0 => by simp [repS]
  | n + 1 => by
    have ih := repS_codes z n
    unfold repS at ih ⊢
    rw [List.replicate_succ, List.foldl_cons, foldS, List.replicate_succ, List.flatten_cons]
    simp only [Array.toList_append] at ih ⊢
    rw [ih]
    simp
def rMulE : R2 := fun x y H Q => ∃ z n, x = .str z ∧ y = .int n ∧ 0 ≤ n ∧ n ≤ 1000 ∧ z.length ≤ 1000 ∧ Q (.str (repS z n.toNat)) H
section
variable {X : Cx} {a b c e o : Expr} {es : List Expr} {ta tb tc te to_ : TE} {ti tj : TT} {tt : TA} {n k j : Nat} {A B C D : DE} {I J : DT} {G : DA} {pos p apos : Pos} {F : DF} {x : Str} {sts : List Stmt} {t : TS} {T : DS}
theorem str_nil {z : Str} (h : z.length = 0) : z = Str.empty := by
  cases z with
  | mk c =>
    have : c = #[] := Array.eq_empty_of_size_eq_zero h
    rw [this]
    rfl
theorem op_mulE : OpR X (binaryOp .Mult) rMulE := by
  intro pins s σ H x y v u Q I rx ry h
  obtain ⟨z, n, rfl, rfl, n0, n1, hz, q⟩ := h
  obtain ⟨t, rfl⟩ := rx
  obtain ⟨t', rfl⟩ := ry
  have hline : (sizeLine : Nat) = 16777216 := sizeLine_eq
  have hz2 : z.length * n.toNat ≤ 1000 * 1000 := Nat.mul_le_mul hz (by omega)
  refine PySem.P.mul_str ?_ ?_ ?_ ?_
  · have h1 : ¬ n < -(2 ^ 63 : Int) := by omega
    have h2 : ¬ n ≥ 2 ^ 63 := by omega
    rw [decide_eq_false h1, decide_eq_false h2]
    rfl
  · intro h1 _ h3
    have h4 : (z.length : Int) * n ≤ 2 ^ 63 - 1 := by
      have e : (z.length : Int) * n = ((z.length * n.toNat : Nat) : Int) := by
        rw [Int.natCast_mul, Int.toNat_of_nonneg n0]
      rw [e]
      omega
    have h5 := Int.le_ediv_of_mul_le (show 0 < n by omega) h4
    omega
  · intro _ _
    unfold Builtin.Str.tooLong
    exact decide_eq_false (by omega)
  · split
    · rename_i c1
      have e : repS z n.toNat = Str.empty := str_nil (by rw [repS_length, show n.toNat = 0 by omega]; omega)
      rw [e] at q
      exact ⟨by decide, .str Str.empty, H, I.tok _, ⟨_, rfl⟩, q⟩
    · split
      · rename_i c1 c2
        have ez : repS z n.toNat = z := by
          rcases Bool.or_eq_true_iff.mp c2 with e | e
          · have e2 : n = 1 := by simpa using e
            subst e2
            show repS z 1 = z
            unfold repS
            simp
          · have e2 : z.length = 0 := by simpa using e
            rw [str_nil e2]
            exact str_nil (by rw [repS_length]; show _ * 0 = 0; omega)
        rw [ez] at q
        exact ⟨.str z, H, I, ⟨_, rfl⟩, q⟩
      · have sz : (repS z n.toNat).length = z.length * n.toNat := by rw [repS_length, Nat.mul_comm]
        exact ⟨by unfold repS at sz; rw [sz]; omega, .str _, H, I.tok _, ⟨_, rfl⟩, q⟩
def gMul : DO := fun x y M Q => match x, y with
  | .int i, .int j => CMul i j ∧ Q (.int (i * j)) M
  | .str z, .int k => (0 ≤ k ∧ k ≤ 1000 ∧ z.length ≤ 1000) ∧ Q (.str (repS z k.toNat)) M
  | .tup ds, .int k => (ds ≠ [] ∧ 2 ≤ k ∧ k ≤ 1000 ∧ ds.length ≤ 1000) ∧ Q (.tup (List.replicate k.toNat ds).flatten) M
  | _, _ => False
abbrev rMulA (K : PySem.W.Frag) : R2 := fun x y H Q => rI CMul (fun i j => .int (i * j)) x y H Q ∨ rMulE x y H Q ∨ rRepT K x y H Q
theorem o_mulA : Op X (binaryOp .Mult) (rMulA X.K) gMul := by
  refine ⟨opr_or op_mul (opr_or op_mulE op_repT), ?_⟩
  intro S H x y dx dy M Q R rx ry hr f q
  unfold gMul at f
  split at f
  · cases rx
    cases ry
    exact .inl ⟨_, _, rfl, rfl, f.1, q _ M _ H f.2 Gr.refl (.int _) hr⟩
  · cases rx
    cases ry
    obtain ⟨⟨h1, h2, h3⟩, f⟩ := f
    exact .inr (.inl ⟨_, _, rfl, rfl, h1, h2, h3, q _ M _ H f Gr.refl (.str _) hr⟩)
  · obtain ⟨⟨h1, h2, h3, h4⟩, f⟩ := f
    cases ry
    cases rx with
    | tup ha ra =>
      refine .inr (.inr ⟨_, _, _, rfl, rfl, sqT_hid ha, fun z => h1 (ra.isNil.mp z), h2, h3, by rw [ra.len]; exact h4, fun p hp => ?_⟩)
      obtain ⟨g, hr', rd⟩ := RD.newT hr hp (ra.rep _)
      exact q _ M _ _ f g rd hr'
  · exact f.elim
/-- a method of a list, by its rule -/
theorem d_bm {id : String} {name : Str} {r : V → List V → Hp → VK → Prop} {g : Addr → List Dv → List Dv → MH → DK → Prop} {cpos : Pos} (pa : PlainAttrs "list") (slot : Slot "list" name id) (hty : typeOf (.builtin id) = pure (.type "method_descriptor")) (hm : MtR X id r) (hR : RMt X.K r g) (h1 : Ex X o to_ A) (h2 : As X (e :: es) tt n G)
    (hbase : attributeBase o name X.env (eval o X.env) = eval o X.env := by rfl)
    (hfew : ((backTo cpos (starEach (e :: es) X.env)).all (fun x => !x.1) && (backToKw cpos (keywordEach [] X.env)).all (fun x => x.1.isSome)
      && decide ((e :: es).length + ([] : List Keyword).length + (if ([] : List Keyword).isEmpty then 0 else 1) < 30)) = true := by rfl)
    (hline : (apos.endLine == cpos.line) = true := by rfl) (hs : starEach (e :: es) X.env = (false, eval e X.env) :: starEach es X.env := by rfl) (hplain : (backTo cpos (starEach es X.env)).any (·.1) = false := by rfl) :
    Ex X (.Call (.Attribute o name apos) (e :: es) [] cpos) (tBM X.K "list" r to_ tt) (dMeth1 A G g) := ⟨pe_bm pa slot hty hm h1.p h2.p hbase hfew hline hs hplain, RE.meth1 hR h1.r h2.r⟩
theorem d_bm0 {id : String} {name : Str} {r : V → List V → Hp → VK → Prop} {g : Addr → List Dv → List Dv → MH → DK → Prop} {cpos : Pos} (pa : PlainAttrs "list") (slot : Slot "list" name id) (hty : typeOf (.builtin id) = pure (.type "method_descriptor")) (hm : MtR X id r) (hR : RMt X.K r g) (h1 : Ex X o to_ A)
    (hbase : attributeBase o name X.env (eval o X.env) = eval o X.env := by rfl) (hline : (apos.endLine == cpos.line) = true := by rfl) :
    Ex X (.Call (.Attribute o name apos) [] [] cpos) (tBM0 X.K "list" r to_) (dMeth1 A dANil g) := ⟨pe_bm0 pa slot hty hm h1.p hbase hline, RE.meth0 hR h1.r⟩
theorem units5 {k : Nat} {A : Around} (r : Room k A) : A.units + 65 < cLine := by have := r.un; omega
/-! ## constants of the module -/
theorem rd_tupK {K : PySem.W.Frag} {a : Addr} {od : Option Addr} {its : Array Value} {m : Nat} {sl : Array (Option Value)} {vs : List V} {ds : List Dv} (h : K.lookup a = some ⟨.type "tuple", od, .seq its m, sl⟩) (hz : its.size ≤ sizeLine) (hv : Vals vs its.toList) (G : Hp) (hd : RDs K G vs ds) : RD K G (.ref a) (.tup ds) :=
  .tup (.inr ⟨_, its, m, h, rfl, rfl, hz, hv⟩) hd
theorem d_cint {x : Str} {i : Int} {pos : Pos} (hg : Gl X x) (h : ∃ t, X.mg x = some (.int i t)) (hd : (x == ("__debug__" : Str)) = false := by decide) : Ex X (.Name x pos) (tC (.int i)) (dC (.int i)) := by
  obtain ⟨t, h⟩ := h
  exact d_glob hg h ⟨_, rfl⟩ (fun _ => .int i) hd
theorem d_ctup {x : Str} {ds : List Dv} {a : Addr} {pos : Pos} (hg : Gl X x) (h : X.mg x = some (.ref a)) (hr : ∀ G, RD X.K G (.ref a) (.tup ds)) (hd : (x == ("__debug__" : Str)) = false := by decide) : Ex X (.Name x pos) (tC (.ref a)) (dC (.tup ds)) :=
  d_glob (v := .ref a) hg h rfl hr hd
/-! ## invariants that are often wanted -/
/-- a comprehension whose items do not change the state -/
theorem dLc_map {W : DI} {g : DG} {A : DE} {vs : List Nat} {env : DEnv} {M : MH} {Q : DK} (items : List Dv) (f : Dv → Dv) (inv : MH → Prop) (hW : ∀ R : List Dv → (MH → Prop) → MH → Prop, R items inv M → W env M R) (hz : items.length ≤ sizeLine) (hin : inv M)
    (step : ∀ d, d ∈ items → ∀ R : DK, R (f d) M → g d (wipeD env vs) M fun env1 M2 => A env1 M2 R) (q : Q (.lst (items.map f)) M) : dLc W g dYes A vs env M Q := by
  unfold dLc
  refine hW _ ⟨hz, fun i acc M' => acc = (items.take i).map f ∧ M' = M, ⟨by simp, rfl⟩, fun i acc M' h => by rw [h.2]; exact hin, ?_, ?_⟩
  · rintro i d acc M' hd ⟨rfl, rfl⟩
    have hmem : d ∈ items := List.mem_of_getElem? hd
    exact step d hmem (fun y M4 => (items.take i).map f ++ [y] = (items.take (i + 1)).map f ∧ M4 = M') ⟨by rw [take_next hd, List.map_append]; rfl, rfl⟩
  · rintro acc M' ⟨rfl, rfl⟩
    rw [List.take_length]
    exact q
/-- a comprehension whose items do not change the state, told by a property of each item -/
theorem dLc_at {W : DI} {g : DG} {A : DE} {vs : List Nat} {env : DEnv} {M : MH} {Q : DK} (items : List Dv) (p : Nat → Dv → Prop) (inv : MH → Prop) (hW : ∀ R : List Dv → (MH → Prop) → MH → Prop, R items inv M → W env M R) (hz : items.length ≤ sizeLine) (hin : inv M)
    (step : ∀ i d, items[i]? = some d → ∀ R : DK, (∀ y, p i y → R y M) → g d (wipeD env vs) M fun env1 M2 => A env1 M2 R) (q : ∀ acc, acc.length = items.length → (∀ i y, acc[i]? = some y → p i y) → Q (.lst acc) M) : dLc W g dYes A vs env M Q := by
  unfold dLc
  refine hW _ ⟨hz, fun i acc M' => (acc.length = i ∧ ∀ j y, acc[j]? = some y → p j y) ∧ M' = M, ⟨⟨rfl, fun j y h => by simp at h⟩, rfl⟩, fun i acc M' h => by rw [h.2]; exact hin, ?_, ?_⟩
  · rintro i d acc M' hd ⟨⟨hl, hp⟩, rfl⟩
    refine step i d hd (fun y M4 => ((acc ++ [y]).length = i + 1 ∧ ∀ j z, (acc ++ [y])[j]? = some z → p j z) ∧ M4 = M') fun y hy => ⟨⟨by rw [List.length_append, hl]; rfl, fun j z hz => ?_⟩, rfl⟩
    by_cases c : j < acc.length
    · rw [List.getElem?_append_left c] at hz
      exact hp j z hz
    · rw [List.getElem?_append_right (by omega)] at hz
      cases e : j - acc.length with
      | zero =>
        rw [e] at hz
        simp at hz
        subst hz
        have : j = i := by omega
        rw [this]
        exact hy
      | succ m =>
        rw [e] at hz
        simp at hz
  · rintro acc M' ⟨⟨hl, hp⟩, rfl⟩
    exact q acc hl hp
/-- a for in which every turn leaves names and state as they were, or returns -/
theorem forI_same {g : DG} {body : DS} {E : DEnds} {env : DEnv} {M : MH} (items : List Dv) (inv : MH → Prop) (hin : inv M) (I : DEnv → Prop) (h0 : I env)
    (step : ∀ d, d ∈ items → ∀ e, I e → g d e M fun env1 M1 => body { E with nx := fun e' M' => I e' ∧ M' = M, ct := fun e' M' => I e' ∧ M' = M, bk := E.nx } env1 M1) (fin : ∀ e, I e → E.nx e M) :
    ∃ I : Nat → DEnv → MH → Prop, I 0 env M ∧ (∀ i env M, I i env M → inv M) ∧ (∀ i d env M, items[i]? = some d → I i env M → g d env M fun env1 M1 => body { E with nx := I (i + 1), ct := I (i + 1), bk := E.nx } env1 M1) ∧ ∀ env M, I items.length env M → E.nx env M := by
  refine ⟨fun i e M' => I e ∧ M' = M, ⟨h0, rfl⟩, fun i e M' h => by rw [h.2]; exact hin, ?_, ?_⟩
  · rintro i d e M' hd ⟨he, rfl⟩
    exact step d (List.mem_of_getElem? hd) e he
  · rintro e M' ⟨he, rfl⟩
    exact fin e he
theorem dFor_same {W : DI} {g : DG} {body : DS} {E : DEnds} {env : DEnv} {M : MH} (items : List Dv) (inv : MH → Prop) (hW : ∀ R : List Dv → (MH → Prop) → MH → Prop, R items inv M → W env M R) (hin : inv M) (I : DEnv → Prop) (h0 : I env)
    (step : ∀ d, d ∈ items → ∀ e, I e → g d e M fun env1 M1 => body { E with nx := fun e' M' => I e' ∧ M' = M, ct := fun e' M' => I e' ∧ M' = M, bk := E.nx } env1 M1) (fin : ∀ e, I e → E.nx e M) : dFor W g body E env M := by
  unfold dFor
  exact hW _ (forI_same items inv hin I h0 step fin)
end
/-! ## a def that leaves objects of its own behind -/
def MLe (M M' : MH) : Prop := ∀ a o, M a = some o → M' a = some o
theorem MLe.refl {M : MH} : MLe M M := fun _ _ h => h
theorem MLe.up {M : MH} {p : Addr} {o : MO} (h : M p = none) : MLe M (mup M p o) := fun a u e => by
  rw [mup_ne (fun z => by subst z; rw [h] at e; cases e)]
  exact e
theorem MLe.hid {S : Addr → Bool} {M M' : MH} {H : Hp} (h : MLe M M') : Same (hid S M' H) (hid S M H) := fun a o e => by
  obtain ⟨y1, y2, y3⟩ := hid_some e
  rw [hid_of y2]
  · exact y1
  · cases c : M a with
    | none => rfl
    | some u => rw [h a u c] at y3; cases y3
theorem HR.less {K : PySem.W.Frag} {S : Addr → Bool} {M M' : MH} {H : Hp} (h : MLe M M') (r : HR K S M' H) : HR K S M H := by
  refine ⟨fun a o e => ?_, fun a ha => ?_⟩
  · obtain ⟨u, y1, y2⟩ := r.obj a o (h a o e)
    exact ⟨u, y1, y2.same h.hid⟩
  · obtain ⟨y1, y2⟩ := r.apart a ha
    refine ⟨?_, y2⟩
    cases c : M a with
    | none => rfl
    | some u => rw [h a u c] at y1; cases y1
theorem Gr.less {S : Addr → Bool} {M M1 M' : MH} {H H' : Hp} (h : MLe M1 M') (g : Gr S M H M' H') : Gr S M H M1 H' := ⟨g.same.trans h.hid, g.hold⟩
theorem dfunG {P : Program} {w : World} {K : PySem.W.Frag} {mg : Str → Option Value} {base : Heap} {k : Nat} {f : Addr} {fd : FuncData} {ps N : List Str} {x qual : Str} {st : Stmt} {F : DF}
    (Fn : L2.Fun K x qual st f fd) (S : FnScope N ps (defScope st)) (len : ∀ ds M R, F ds M R → ds.length = ps.length)
    (body : ∀ (cd : Value) (A : Around) (out : List Env) (s : Shared) (H : Hp) (E : XK), (A.deeper (envOfC qual (defScope st) s.heap.objs.size f cd)).guards = some [] → Room k (A.deeper (envOfC qual (defScope st) s.heap.objs.size f cd)) →
      ∃ t G, Ss (cxOf CX0 P w K mg base N qual (defScope st) f cd A out s H E).nox (defBody st) t G ∧
        ∀ ds M (R : DK), F ds M R → G { nx := fun _ M' => ∃ M'', MLe M'' M' ∧ R .non M'', rt := fun d M' => ∃ M'', MLe M'' M' ∧ R d M'' } (dstart N ds) M) : Gk P w K mg base (k + 1) f fd ps (spD K F) := by
  refine okG Fn S (fun vs H Q E h => ?_) (fun cd A out s H vs Q E hg hr h => ?_)
  · obtain ⟨S', ds, M, R, h1, _, h2, _⟩ := h
    rw [h1.len]
    exact len ds M R h2
  · obtain ⟨S', ds, M, R, h1, hr', h2, q⟩ := h
    obtain ⟨t, G, hs, hb⟩ := body cd A out s H E hg hr
    refine ⟨t, hs.p, ?_⟩
    refine hs.r S' (L2.start N vs) H (dstart N ds) M _ _ (RN.start N h1) hr' (hb ds M R h2) ⟨fun env' M' σ' H' e g rn hr2 => ?_, fun _ _ _ _ e _ _ _ => e.elim, fun _ _ _ _ e _ _ _ => e.elim, fun d M' v H' e g rd hr2 => ?_⟩
    · obtain ⟨M'', l, e⟩ := e
      exact q .non M'' .non H' e (g.less l) .non (hr2.less l)
    · obtain ⟨M'', l, e⟩ := e
      exact q d M'' v H' e (g.less l) (RD.same l.hid _ _ rd) (hr2.less l)
end Vk
set_option linter.unusedVariables false
namespace Vk
open PySem PySem.Spec PyProof.Rows L2
/-! # The data layer: the rules with the written part named (a comprehension's block wants readings that do not name its context) -/
section
variable {X : Cx} {K : PySem.W.Frag} {a b c e o tg : Expr} {es : List Expr} {ta tb tc te to_ : TE} {ti tj : TT} {tt : TA} {n k j : Nat} {A B C D : DE} {I J : DT} {G : DA} {pos p apos : Pos} {F : DF} {x : Str} {sts : List Stmt} {t : TS} {T : DS}
theorem k_add (hK : X.K = K := by rfl) : Op X (binaryOp .Add) (rAddA K) gAdd := by subst hK; exact o_add
theorem k_mul (hK : X.K = K := by rfl) : Op X (binaryOp .Mult) (rMulA K) gMul := by subst hK; exact o_mulA
theorem k_in (hu : X.A.units + 65 < cLine) (hK : X.K = K := by rfl) : Op X (compareOp .In) (rInB K) (gIn fun b => b) := by subst hK; exact o_in hu
theorem k_notIn (hu : X.A.units + 65 < cLine) (hK : X.K = K := by rfl) : Op X (compareOp .NotIn) (rNotInB K) (gIn fun b => !b) := by subst hK; exact o_notIn hu
theorem k_eq (hu : X.A.units + 64 < cLine) (hK : X.K = K := by rfl) : Op X (compareOp .Eq) (rEqA K) (gEq fun b => b) := by subst hK; exact o_eq hu
theorem k_ne (hu : X.A.units + 64 < cLine) (hK : X.K = K := by rfl) : Op X (compareOp .NotEq) (rNeA K) (gEq fun b => !b) := by subst hK; exact o_ne hu
abbrev rLenA (K : PySem.W.Frag) : List V → Hp → VK → Prop := fun xs H Q => ∃ x n, xs = [x] ∧ LenV K x H n ∧ Q (.int n) H
theorem k_len (hK : X.K = K := by rfl) : Cb X (.builtin "len") (rLenA K) gLen := by subst hK; exact c_len
abbrev rTupA (K : PySem.W.Frag) : List V → Hp → VK → Prop := fun xs H Q => ∃ p ys, xs = [.ref p] ∧ ((SqL K H p ys ∧ ∀ l, H l = none → Q (.ref l) (upd H l (.tup ys))) ∨ (SqT K H p ys ∧ Q (.ref p) H))
theorem k_tuple (hK : X.K = K := by rfl) : Cb X (.type "tuple") (rTupA K) gTupOf := by subst hK; exact c_tuple
abbrev rLstA (K : PySem.W.Frag) : List V → Hp → VK → Prop := fun xs H Q => ∃ p ys, xs = [.ref p] ∧ (SqL K H p ys ∨ SqT K H p ys) ∧ ∀ l, H l = none → Q (.ref l) (upd H l (.lst ys))
theorem k_list (hK : X.K = K := by rfl) : Cb X (.type "list") (rLstA K) gLstOf := by subst hK; exact c_list
theorem k_all (hc : X.calm = true) (hK : X.K = K := by rfl) : Cb X (.builtin "all") (rAll K) (gAll fun bs => bs.all id) := by subst hK; exact c_all hc
theorem k_any (hc : X.calm = true) (hK : X.K = K := by rfl) : Cb X (.builtin "any") (rAny K) (gAll fun bs => bs.any id) := by subst hK; exact c_any hc
theorem k_isi (hK : X.K = K := by rfl) : Cb X (.builtin "isinstance") (rIsi K) gIsi := by subst hK; exact c_isi
theorem k_type (hK : X.K = K := by rfl) : Cb X (.type "type") (rTypX K) gTy := by subst hK; exact c_type
theorem k_ix (h1 : Ex X a ta A) (h2 : Ex X b tb B) (hs : PlainIx b := by exact fun _ _ => rfl) (hK : X.K = K := by rfl) : Ex X (.Subscript a b pos) (tOp (fun x y H Q => rIxL K x y H Q ∨ (rIxT K x y H Q ∨ rIxS x y H Q)) ta tb) (dOp gIx A B) := by subst hK; exact d_ix h1 h2 hs
theorem k_slice {lo hi : Option Expr} {p2 : Pos} {tl th : TO} {L U : DP} (h : Ex X e te A) (hl : Pt X lo tl L) (hu : Pt X hi th U) (hK : X.K = K := by rfl) :
    Ex X (.Subscript e (.Slice lo hi none p2) pos) (tSl (fun x lo hi H Q => rSlL K x lo hi H Q ∨ (rSlA K x lo hi H Q ∨ rSlS x lo hi H Q)) te tl th) (dSl A L U) := by subst hK; exact d_slice h hl hu
theorem k_call (hg : X.A.guards = some []) (C : DCal X.prog X.w X.K X.mg X.base x k F) (hr : Room j X.A) (gl : Gl X x) (h : As X (e :: es) tt n G) (hk : k ≤ j := by decide) (dbg : (x == ("__debug__" : Str)) = false := by decide)
    (st : starEach (e :: es) X.env = (false, eval e X.env) :: starEach es X.env := by rfl) (pl : (backTo pos (starEach es X.env)).any (·.1) = false := by rfl) (hK : X.K = K := by rfl) : Ex X (.Call (.Name x p) (e :: es) [] pos) (tCall (spD K F) [] E0 tt) (dCall F G) := by
  subst hK
  exact d_call hg C hr gl h hk dbg st pl
theorem k_call0 (hg : X.A.guards = some []) (C : DCal X.prog X.w X.K X.mg X.base x k F) (hr : Room j X.A) (gl : Gl X x) (hk : k ≤ j := by decide) (dbg : (x == ("__debug__" : Str)) = false := by decide) (hK : X.K = K := by rfl) :
    Ex X (.Call (.Name x p) [] [] pos) (tCall (spD K F) [] E0 tNil) (dCall F dANil) := by
  subst hK
  exact d_call0 hg C hr gl hk dbg
theorem k_callv {P : Program} {w : World} {mg : Str → Option Value} {base : Heap} (i : Nat) (hg : X.A.guards = some []) (hr : Room j X.A) (h : As X (e :: es) tt n G) (hN : X.N[i]? = some x := by rfl) (hv : Vis X.env.scope x := by first | exact Or.inl rfl | exact Or.inr (Or.inl rfl) | exact Or.inr (Or.inr rfl))
    (hd : (x == ("__debug__" : Str)) = false := by decide) (hcd : (x == ("__classdict__" : Str)) = false := by decide)
    (st : starEach (e :: es) X.env = (false, eval e X.env) :: starEach es X.env := by rfl) (pl : (backTo pos (starEach es X.env)).any (·.1) = false := by rfl) (hP : X.prog = P := by rfl) (hw : X.w = w := by rfl) (hK : X.K = K := by rfl) (hm : X.mg = mg := by rfl) (hb : X.base = base := by rfl) :
    Ex X (.Call (.Name x p) (e :: es) [] pos) (tCallD i (fun f sp => ∃ k F, k ≤ j ∧ DAt P w K mg base f k F ∧ sp = spD K F) tt) (dCallV i (fun f F => ∃ k, k ≤ j ∧ DAt P w K mg base f k F) G) := by
  subst hP hw hK hm hb
  exact d_callv i hg hr h hN hv hd hcd st pl
theorem k_truth (h : Ex X a ta A) (he : ∀ whole, isTrue a X.env whole = (do let v ← whole; standAt a.pos; holding [v] (truthy v)) := by intro _; rfl) (hK : X.K = K := by rfl) :
    Ts X a (fun σ H Q => ta σ H fun x H' => ∃ k, TruV K x H' k ∧ Q k H') (dTru A) := by subst hK; exact t_truth h he
theorem k_list_ (h : Ex X a ta A) (hK : X.K = K := by rfl) : Wk X tg a (iList K ta) (wItems A) := by subst hK; exact w_list h
theorem k_tup_ (h : Ex X a ta A) (hK : X.K = K := by rfl) : Wk X tg a (iTup K ta) (wTup A) := by subst hK; exact w_tup h
theorem kg_tup {es : List Expr} {k : Nat} {gs : TGs} {ws : List Nat} {Fs : DGs} {n : Nat} (hc : X.calm = true) (h : Tgs X es gs ws Fs)
    (hn : (assignEach es X.env).length = n := by rfl) (hst : (assignEach es X.env).findIdx? (·.1) = none := by rfl) (hK : X.K = K := by rfl) : Tg X (.Tuple es k pos) (gTup K n gs) ws (sTup n Fs) := by subst hK; exact g_tup hc h hn hst
theorem meth_go {i : Nat} {env : DEnv} {M : MH} {Q : DK} {p : Addr} {xs : List Dv} {G : DA} {g : Addr → List Dv → List Dv → MH → DK → Prop} (e : env[i]? = some (some (.ref p))) (h : M p = some (.lst xs)) (q : G env M fun ds M2 => match M2 p with
    | some (.lst ys) => g p ys ds M2 Q
    | _ => False) : dMeth1 (dV i) G g env M Q := by
  unfold dMeth1 dV
  rw [e]
  show (match M p with | some (.lst _) => _ | _ => False)
  rw [h]
  exact q
theorem meth_go0 {i : Nat} {env : DEnv} {M : MH} {Q : DK} {p : Addr} {xs : List Dv} {g : Addr → List Dv → List Dv → MH → DK → Prop} (e : env[i]? = some (some (.ref p))) (h : M p = some (.lst xs)) (q : g p xs [] M Q) : dMeth1 (dV i) dANil g env M Q := by
  refine meth_go e h ?_
  show (match M p with | some (.lst _) => _ | _ => False)
  rw [h]
  exact q
theorem pop_go {p : Addr} {xs : List Dv} {y : Dv} {M : MH} {Q : DK} (q : Q y (mup M p (.lst xs))) : gPop p (xs ++ [y]) [] M Q := by
  unfold gPop
  have e : (xs ++ [y])[(xs ++ [y]).length - 1]? = some y := by simp
  rw [e, List.dropLast_concat]
  exact q
end
end Vk
set_option linter.unusedVariables false
namespace Vk
open PySem PySem.Spec PyProof.Rows L2
theorem tuple_mulSame (l : Addr) (items : Array Value) (n : Nat) (dd : Option Addr) (sl : Array (Option Value)) (x : Int) (u : Tok) (c0 : (decide (x < -(2 ^ 63)) || decide (x ≥ 2 ^ 63)) = false) (c1 : (items.isEmpty || x == 1) = true) :
    Meets (Builtin.«tuple.__mul__» ⟨[.ref l, .int x u], []⟩) (fun _ R s => s.heap.get? l = some { cls := .type "tuple", dict := dd, data := .seq items n, slots := sl } ∧ R (.ok (.ret (Value.ref l))) s) :=
  .of_wp fun prog w A R s h => by
    obtain ⟨hp, g, d, tk, os⟩ := s
    obtain ⟨hl, h⟩ := h
    have f1 := AutoSeq1.idx_int
    wp_walk using wpAny_loadPart' hl
    repeat (first
      | (refine wpAny_ite_false (decide_eq_false (by rw [c0]; exact Bool.false_ne_true)) ?_; wp_walk using wpAny_loadPart' hl)
      | (refine wpAny_ite_true (decide_eq_true c1) ?_; wp_walk using wpAny_loadPart' hl))
    exact ⟨_, rfl, h⟩
theorem tuple_mulNone (l : Addr) (items : Array Value) (n : Nat) (dd : Option Addr) (sl : Array (Option Value)) (x : Int) (u : Tok) (c0 : (decide (x < -(2 ^ 63)) || decide (x ≥ 2 ^ 63)) = false) (c1 : (items.isEmpty || x == 1) = false) (c2 : (decide (x ≤ 0) || items.isEmpty) = true) :
    Meets (Builtin.«tuple.__mul__» ⟨[.ref l, .int x u], []⟩) (fun _ R s => s.heap.get? l = some { cls := .type "tuple", dict := dd, data := .seq items n, slots := sl } ∧
      R (.ok (.ret (Value.ref s.heap.objs.size))) { s with heap := s.heap.push { cls := Value.type "tuple", data := Data.seq #[] }, toks := s.toks }) :=
  .of_wp fun prog w A R s h => by
    obtain ⟨hp, g, d, tk, os⟩ := s
    obtain ⟨hl, h⟩ := h
    have f1 := AutoSeq1.idx_int
    wp_walk using wpAny_loadPart' hl
    repeat (first
      | (refine wpAny_ite_false (decide_eq_false (by rw [c0]; exact Bool.false_ne_true)) ?_; wp_walk using wpAny_loadPart' hl)
      | (refine wpAny_ite_false (decide_eq_false (by rw [c1]; exact Bool.false_ne_true)) ?_; wp_walk using wpAny_loadPart' hl)
      | (refine wpAny_ite_true (decide_eq_true c2) ?_; wp_walk using wpAny_loadPart' hl))
    exact ⟨_, rfl, h⟩
def rRepG (K : PySem.W.Frag) : R2 := fun x y H Q => ∃ l k xs, x = .ref l ∧ y = .int k ∧ SqT K H l xs ∧ -1000 ≤ k ∧ k ≤ 1000 ∧ xs.length ≤ 1000 ∧ ((xs = [] ∨ k = 1) → Q (.ref l) H) ∧ (xs ≠ [] → k ≤ 0 → ∀ p, H p = none → Q (.ref p) (upd H p (.tup []))) ∧
  (xs ≠ [] → 2 ≤ k → ∀ p, H p = none → Q (.ref p) (upd H p (.tup (List.replicate k.toNat xs).flatten)))
section
variable {X : Cx}
theorem op_repG : OpR X (binaryOp .Mult) (rRepG X.K) := by
  intro pins s σ H x y v u Q I rx ry h
  obtain ⟨l, k, xs, rfl, rfl, hT, h1, h2, hz, q1, q2, q3⟩ := h
  by_cases hbig : xs ≠ [] ∧ 2 ≤ k
  · exact op_repT pins s σ H _ _ v u Q I rx ry ⟨l, k, xs, rfl, rfl, hT, hbig.1, hbig.2, h2, hz, q3 hbig.1 hbig.2⟩
  · cases rx
    obtain ⟨t, rfl⟩ := ry
    obtain ⟨its, r, ⟨⟨cls, dd, data, sl⟩, ho, hc, n, hd⟩, hs⟩ := I.tuple hT
    simp only at hc hd
    subst hc hd
    have hle : its.length = xs.length := r.length.symm
    have c0 : (decide (k < -(2 ^ 63)) || decide (k ≥ 2 ^ 63)) = false := by
      rw [decide_eq_false (by omega), decide_eq_false (by omega)] <;> rfl
    by_cases hsame : xs = [] ∨ k = 1
    · have c1 : (its.toArray.isEmpty || k == 1) = true := by
        rcases hsame with e | e
        · have : its = [] := List.eq_nil_of_length_eq_zero (by rw [hle, e]; rfl)
          rw [this]
          rfl
        · rw [e]
          simp
      refine wpAny_binaryOp_repeat_ref (T := "tuple") (U := "int") (by decide) ⟨_, ho, rfl⟩ (fun s' => typeIs_int s' k t) noFill_tuple_mul F.fills_int_mul F.slot_int_rmul repeat_tuple F.slot_int_index.lookup
        (call_meets F.slot_int_rmul (typeIs_int s k t) F.entry_int_rmul (F.args_int_rmul_2 _ _) (int_rmul_tuple k t l its.toArray n dd sl)
          ⟨ho, rfl, ⟨_, ho, rfl⟩, call_meets F.slot_tuple_mul ⟨_, ho, rfl⟩ F.entry_tuple_mul (F.args_tuple_mul_2 _ _) (tuple_mulSame l its.toArray n dd sl k t c0 c1) ⟨ho, ?_⟩⟩)
      exact ⟨.ref l, H, I, rfl, q1 hsame⟩
    · have hne : xs ≠ [] := fun e => hsame (.inl e)
      have hk1 : ¬ k = 1 := fun e => hsame (.inr e)
      have hk : k ≤ 0 := by
        have : ¬ 2 ≤ k := fun e => hbig ⟨hne, e⟩
        omega
      have hn : its ≠ [] := fun e => hne (by
        rw [e] at hle
        exact List.eq_nil_of_length_eq_zero hle.symm)
      have hi : its.toArray.isEmpty = false := by
        cases its with
        | nil => exact absurd rfl hn
        | cons a b => rfl
      have c1 : (its.toArray.isEmpty || k == 1) = false := by
        rw [hi, Bool.false_or]
        exact beq_eq_false_iff_ne.mpr hk1
      have c2 : (decide (k ≤ 0) || its.toArray.isEmpty) = true := by
        rw [decide_eq_true hk]
        rfl
      refine wpAny_binaryOp_repeat_ref (T := "tuple") (U := "int") (by decide) ⟨_, ho, rfl⟩ (fun s' => typeIs_int s' k t) noFill_tuple_mul F.fills_int_mul F.slot_int_rmul repeat_tuple F.slot_int_index.lookup
        (call_meets F.slot_int_rmul (typeIs_int s k t) F.entry_int_rmul (F.args_int_rmul_2 _ _) (int_rmul_tuple k t l its.toArray n dd sl)
          ⟨ho, rfl, ⟨_, ho, rfl⟩, call_meets F.slot_tuple_mul ⟨_, ho, rfl⟩ F.entry_tuple_mul (F.args_tuple_mul_2 _ _) (tuple_mulNone l its.toArray n dd sl k t c0 c1 c2) ⟨ho, ?_⟩⟩)
      refine ⟨.ref s.heap.objs.size, _, I.laid (t' := s.toks) (o := .tup []) (fun b ob q => Heap.get?_push_of_some _ q) (Nat.le_refl _) ?_, rfl, q2 hne hk _ (I.hok.fresh (Nat.le_refl _))⟩
      exact ⟨Nat.zero_le _, [], .nil, IsTup.new _ _⟩
def gMulG : DO := fun x y M Q => match x, y with
  | .int i, .int j => CMul i j ∧ Q (.int (i * j)) M
  | .str z, .int k => (0 ≤ k ∧ k ≤ 1000 ∧ z.length ≤ 1000) ∧ Q (.str (repS z k.toNat)) M
  | .tup ds, .int k => (-1000 ≤ k ∧ k ≤ 1000 ∧ ds.length ≤ 1000) ∧ Q (.tup (List.replicate k.toNat ds).flatten) M
  | _, _ => False
abbrev rMulG (K : PySem.W.Frag) : R2 := fun x y H Q => rI CMul (fun i j => .int (i * j)) x y H Q ∨ rMulE x y H Q ∨ rRepG K x y H Q
theorem o_mulG : Op X (binaryOp .Mult) (rMulG X.K) gMulG := by
  refine ⟨opr_or op_mul (opr_or op_mulE op_repG), ?_⟩
  intro S H x y dx dy M Q R rx ry hr f q
  unfold gMulG at f
  split at f
  · cases rx
    cases ry
    exact .inl ⟨_, _, rfl, rfl, f.1, q _ M _ H f.2 Gr.refl (.int _) hr⟩
  · cases rx
    cases ry
    obtain ⟨⟨h1, h2, h3⟩, f⟩ := f
    exact .inr (.inl ⟨_, _, rfl, rfl, h1, h2, h3, q _ M _ H f Gr.refl (.str _) hr⟩)
  · obtain ⟨⟨h1, h2, h3⟩, f⟩ := f
    cases ry
    cases rx with
    | tup ha ra =>
      refine .inr (.inr ⟨_, _, _, rfl, rfl, sqT_hid ha, h1, h2, by rw [ra.len]; exact h3, fun z => ?_, fun z hk p hp => ?_, fun _ _ p hp => ?_⟩)
      · rename_i ds k _ _
        have e : (List.replicate k.toNat ds).flatten = ds := by
          rcases z with z | z
          · rw [ra.isNil.mp z]
            simp
          · rw [z]
            show (List.replicate 1 ds).flatten = ds
            simp
        rw [e] at f
        exact q _ M _ H f Gr.refl (.tup ha ra) hr
      · rename_i ds k _ _
        have e : (List.replicate k.toNat ds).flatten = [] := by
          rw [show k.toNat = 0 by omega]
          rfl
        rw [e] at f
        obtain ⟨g, hr', rd⟩ := RD.newT hr hp (vs := []) (ds := []) (.nil (K := X.K) (G := hid S M H))
        exact q _ M _ _ f g rd hr'
      · obtain ⟨g, hr', rd⟩ := RD.newT hr hp (ra.rep _)
        exact q _ M _ _ f g rd hr'
  · exact f.elim
theorem k_mulG {K : PySem.W.Frag} (hK : X.K = K := by rfl) : Op X (binaryOp .Mult) (rMulG K) gMulG := by subst hK; exact o_mulG
end
end Vk
set_option linter.unusedVariables false
namespace Vk
open PySem PySem.Spec PyProof.Rows L2
/-! # The data layer: comprehensions whose list is changed later, sums of lists that change -/
@[irreducible] def dLcM (W : DI) (g : DG) (T : DT) (A : DE) (vs : List Nat) : DE := fun env M Q => W env M fun items inv M1 => items.length ≤ sizeLine ∧ ∃ I : Nat → List Dv → MH → Prop, I 0 [] M1 ∧ (∀ i acc M, I i acc M → inv M) ∧
  (∀ i d acc M, items[i]? = some d → I i acc M → g d (wipeD env vs) M fun env1 M2 => T env1 M2 fun b M3 => if b = true then A env1 M3 fun y M4 => I (i + 1) (acc ++ [y]) M4 else I (i + 1) acc M3) ∧ ∀ acc M, I items.length acc M → ∀ p, M p = none → Q (.ref p) (mup M p (.lst acc))
theorem RE.lcM {K : PySem.W.Frag} {wi : TI} {g : TG} {tT : TT} {te : TE} {vs ws : List Nat} {W : DI} {Fg : DG} {T : DT} {A : DE} (hi : RI K wi W) (hg : RG K g ws Fg) (ht : RT K tT T) (he : RE K te A) (hw : ∀ i, i ∈ ws → i ∈ vs) :
    RE K (tLc wi g tT te vs) (dLcM W Fg T A vs) := by
  intro S σ H env M Q R rn hr f q
  unfold dLcM at f
  refine hi S σ H env M _ _ rn hr f fun items inv M1 J H1 f1 g1 hr1 wk => ?_
  obtain ⟨hsz, I, h0, hin, step, fin⟩ := f1
  intro D hD
  obtain ⟨sD, mD⟩ := hr1.fresh hD
  let S2 : Addr → Bool := fun z => S z || z == D
  have s2D : S2 D = true := by simp [S2]
  have s2S : ∀ z, S z = true → S2 z = true := fun z hz => by simp [S2, hz]
  have hid0 : ∀ o, hid S2 M1 (upd H1 D o) = hid S M1 H1 := fun o => by
    funext z
    by_cases c : z = D
    · subst c
      unfold hid
      rw [s2D, sD, mD, hD]
      simp
    · have e : S2 z = S z := by simp [S2, c]
      unfold hid
      rw [e, upd_ne c]
  have hr0 : HR K S2 M1 (upd H1 D (.lst [])) := by
    refine ⟨fun z o e => ?_, fun z hz => ?_⟩
    · obtain ⟨u, y1, y2⟩ := hr1.obj z o e
      have n : z ≠ D := fun w => by subst w; rw [mD] at e; cases e
      exact ⟨u, by rw [upd_ne n]; exact y1, by rw [hid0]; exact y2⟩
    · by_cases c : z = D
      · subst c
        exact ⟨mD, by rw [upd_same]; exact fun w => by cases w⟩
      · have e : S z = true := by simpa [S2, c] using hz
        obtain ⟨y1, y2⟩ := hr1.apart z e
        exact ⟨y1, by rw [upd_ne c]; exact y2⟩
  refine ⟨fun i m H' => ∃ acc M' av, I i acc M' ∧ H' D = some (.lst av) ∧ RDs K (hid S2 M' H') av acc ∧ HR K S2 M' H' ∧ Same (hid S M1 H1) (hid S2 M' H') ∧ (∀ z, S z = true → H' z = H1 z) ∧ acc.length ≤ i ∧ m = items.length - i ∧ i ≤ items.length,
    ⟨_, [], M1, [], h0, upd_same, .nil, hr0, by rw [hid0]; exact Same.refl _, fun z hz => upd_ne (fun w => by subst w; rw [sD] at hz; cases hz), Nat.zero_le _, rfl, Nat.zero_le _⟩, ?_⟩
  rintro i m H2 ⟨acc, M2, av, h2, at2, ra2, hr2, same2, hold2, hl2, rfl, hi2⟩
  rcases Nat.lt_or_eq_of_le hi2 with hlt | heq
  · refine .inr ?_
    have hd : items[i]? = some items[i] := List.getElem?_eq_getElem hlt
    obtain ⟨w1, w2⟩ := wk.go i _ hd S2 M2 H2 same2 hr2 (hin _ _ _ h2)
    refine ⟨w1, fun H' => ∃ acc' M' av', I (i + 1) acc' M' ∧ H' D = some (.lst av') ∧ RDs K (hid S2 M' H') av' acc' ∧ HR K S2 M' H' ∧ Same (hid S M1 H1) (hid S2 M' H') ∧ (∀ z, S z = true → H' z = H1 z) ∧ acc'.length ≤ i + 1,
      fun H' ⟨a', M', av', y1, y2, y3, y4, y5, y6, y7⟩ => ⟨items.length - (i + 1), by omega, a', M', av', y1, y2, y3, y4, y5, y6, y7, rfl, hlt⟩, fun x H3 hy => ?_⟩
    obtain ⟨g3, hr3, rd⟩ := w2 x H3 hy
    have rnw : RN K (hid S2 M2 H3) (L2.wipe σ vs) (wipeD env vs) := RN.same g3.same (RN.same same2 (RN.wipe (rn.same g1.same) vs))
    refine hg S2 (L2.wipe σ vs) H3 x _ (wipeD env vs) M2 _ _ rd rnw hr3 (step i _ acc M2 hd h2) fun env4 M4 σ4 H4 f4 g4 rn4 hr4 k4 => ?_
    refine ⟨wipe_back hw (by rw [k4.1, L2.wipe_length]) k4.2, ?_⟩
    refine ht S2 σ4 H4 env4 M4 _ _ rn4 hr4 f4 fun b M5 H5 f5 g5 hr5 => ?_
    split at f5
    · rename_i eb
      rw [if_pos eb]
      refine he S2 σ4 H5 env4 M5 _ _ (rn4.same g5.same) hr5 f5 fun y M6 v H6 f6 g6 rd6 hr6 => ?_
      have gg := ((g3.trans g4).trans g5).trans g6
      have at6 : H6 D = some (.lst av) := by rw [gg.hold D s2D]; exact at2
      have ra6 := RDs.same gg.same _ _ ra2
      have hidE : ∀ o, hid S2 M6 (upd H6 D o) = hid S2 M6 H6 := fun o => by
        funext z
        by_cases c : z = D
        · subst c
          unfold hid
          rw [s2D]
          simp
        · unfold hid
          rw [upd_ne c]
      refine ⟨av, at6, by rw [ra2.len]; omega, acc ++ [y], M6, av ++ [v], f6, upd_same, by rw [hidE]; exact ra6.app (.cons rd6 .nil), ⟨fun z o e => ?_, fun z hz => ?_⟩, by rw [hidE]; exact same2.trans gg.same, fun z hz => ?_, by rw [List.length_append]; simp; omega⟩
      · obtain ⟨u, y1, y2⟩ := hr6.obj z o e
        have n : z ≠ D := fun w => by subst w; rw [(hr6.apart _ s2D).1] at e; cases e
        exact ⟨u, by rw [upd_ne n]; exact y1, by rw [hidE]; exact y2⟩
      · obtain ⟨y1, y2⟩ := hr6.apart z hz
        refine ⟨y1, ?_⟩
        by_cases c : z = D
        · subst c
          rw [upd_same]
          exact fun w => by cases w
        · rw [upd_ne c]
          exact y2
      · have n : z ≠ D := fun w => by subst w; rw [sD] at hz; cases hz
        rw [upd_ne n, gg.hold z (s2S z hz)]
        exact hold2 z hz
    · rename_i eb
      rw [if_neg eb]
      have gg := (g3.trans g4).trans g5
      exact ⟨acc, M5, av, f5, by rw [gg.hold D s2D]; exact at2, RDs.same gg.same _ _ ra2, hr5, same2.trans gg.same, fun z hz => by rw [gg.hold z (s2S z hz)]; exact hold2 z hz, by omega⟩
  · subst heq
    refine .inl ⟨wk.stop S2 M2 H2 same2 hr2 (hin _ _ _ h2), ?_⟩
    have m2D : M2 D = none := (hr2.apart D s2D).1
    have eqh : hid S (mup M2 D (.lst acc)) H2 = hid S2 M2 H2 := by
      funext z
      by_cases c : z = D
      · subst c
        unfold hid
        rw [s2D, mup_same]
        simp
      · have e : S2 z = S z := by simp [S2, c]
        unfold hid
        rw [e, mup_ne c]
    refine q _ (mup M2 D (.lst acc)) _ H2 (fin _ _ h2 D m2D) (g1.trans ⟨by rw [eqh]; exact same2, hold2⟩) (.ref D) ⟨fun z o e => ?_, fun z hz => ?_⟩
    · rw [eqh]
      by_cases c : z = D
      · subst c
        rw [mup_same] at e
        cases e
        exact ⟨_, at2, .lst ra2⟩
      · rw [mup_ne c] at e
        exact hr2.obj z o e
    · have n : z ≠ D := fun w => by subst w; rw [sD] at hz; cases hz
      obtain ⟨y1, y2⟩ := hr2.apart z (s2S z hz)
      exact ⟨by rw [mup_ne n]; exact y1, y2⟩
section
variable {X : Cx} {K : PySem.W.Frag} {a b c e o i_ tg : Expr} {ta tb tc te to_ ti_ : TE} {A B C D O I2 : DE} {pos p : Pos}
theorem s_setLcM {i : Nat} {y : Str} {py spos : Pos} {elt it : Expr} {ifs : List Expr} {scope : Scope} {own : List (Str × Nat)} {wi : TI} {g : TG} {tT : TT} {ws : List Nat} {W : DI} {Fg : DG} {T : DT} (hc : X.calm = true) (hN : X.N.Nodup) (hy : X.N[i]? = some y) (hyl : X.env.scope.names.lookup y = some .local)
    (hsw : swapsWith (.ListComp elt [⟨tg, it, ifs, 0⟩] scope pos) (some (.Name y py)) spos.line X.env = pure true) (hi : Wk X tg it wi W) (ok : BlkOk X.N X.env.scope scope own)
    (hg : ∀ (s : Shared) (H : Hp) (C : Addr) (cl : List (Str × Addr)) (fp : List Addr), Tg (X.blk s H scope (compEnvC scope cl C X.env) fp) tg g ws Fg) (ht : ∀ (s : Shared) (H : Hp) (C : Addr) (cl : List (Str × Addr)) (fp : List Addr), PTs (X.blk s H scope (compEnvC scope cl C X.env) fp) ifs tT) (htr : RT X.K tT T)
    (he : ∀ (s : Shared) (H : Hp) (C : Addr) (cl : List (Str × Addr)) (fp : List Addr), Ex (X.blk s H scope (compEnvC scope cl C X.env) fp) elt te A) (hw : ∀ i, i ∈ ws → i ∈ own.map (·.2) := by decide) (hs : ∀ x, foldedSetIterable it X.env x = pure x := by intro _; rfl) :
    Sm X (.Assign [.Name y py] (.ListComp elt [⟨tg, it, ifs, 0⟩] scope pos) spos) (tAsg (tLc wi g tT te (own.map (·.2))) (gName i)) (dSet i (dLcM W Fg T A (own.map (·.2)))) := by
  refine ⟨ps_setLc hc hN hy hyl hsw hi.p ok (fun s H C cl fp => (hg s H C cl fp).p) ht (fun s H C cl fp => (he s H C cl fp).p) hs, ?_⟩
  have r := RE.lcM hi.r (hg X.s_0 X.H_0 0 [] []).r htr (he X.s_0 X.H_0 0 [] []).r hw
  intro S σ H env M D E rn hr f c
  refine r S σ H env M _ _ rn hr f fun d M' v H' e g rd hr' => ?_
  exact c.nx _ M' _ H' e g ((rn.same g.same).set rd i) hr'
/-- a list, data or one that changes -/
def lsD (M : MH) : Dv → Option (List Dv)
  | .lst ds => some ds
  | .ref p => match M p with
    | some (.lst ds) => some ds
    | _ => none
  | _ => none
theorem ls_rd {K : PySem.W.Frag} {S : Addr → Bool} {M : MH} {H : Hp} {v : V} {d : Dv} {ds : List Dv} (hr : HR K S M H) (h : RD K (hid S M H) v d) (e : lsD M d = some ds) : ∃ a vs, v = .ref a ∧ H a = some (.lst vs) ∧ RDs K (hid S M H) vs ds := by
  cases h with
  | lst ha ra => cases e; exact ⟨_, _, rfl, (hid_some ha).1, ra⟩
  | ref p =>
    unfold lsD at e
    simp only at e
    split at e
    · rename_i e1
      cases e
      obtain ⟨u, z1, z2⟩ := hr.obj _ _ e1
      cases z2 with
      | lst ra => exact ⟨_, _, rfl, z1, ra⟩
    · cases e
  | _ => cases e
/-- + of two lists -/
@[irreducible] def gAddL : DO := fun x y M Q => match lsD M x, lsD M y with
  | some i, some j => i.length + j.length ≤ sizeLine ∧ Q (.lst (i ++ j)) M
  | _, _ => False
theorem o_addL : Op X (binaryOp .Add) rCat gAddL := by
  refine ⟨op_cat, ?_⟩
  intro S H x y dx dy M Q R rx ry hr f q
  unfold gAddL at f
  split at f
  · rename_i e1 e2
    obtain ⟨a, vs, rfl, ha, ra⟩ := ls_rd hr rx e1
    obtain ⟨b, ws, rfl, hb, rb⟩ := ls_rd hr ry e2
    refine ⟨_, _, _, _, rfl, rfl, ha, hb, by rw [ra.len, rb.len]; exact f.1, fun p hp => ?_⟩
    obtain ⟨g, hr', rd⟩ := RD.newL hr hp (ra.app rb)
    exact q _ M _ _ f.2 g rd hr'
  · exact f.elim
/-- xs[i] = v -/
theorem s_put {st : Stmt} (h1 : Ex X e te A) (h2 : Ex X o to_ O) (h3 : Ex X i_ ti_ I2) (hst : PE X e te → PE X o to_ → PE X i_ ti_ → PS X st (tAsg te (gSub to_ ti_ rSetL))) : Sm X st (tAsg te (L2.gSub to_ ti_ rSetL)) (dPut A O I2) := s_putL (hst h1.p h2.p h3.p) h1.r h2.r h3.r
end
end Vk
set_option linter.unusedVariables false
set_option linter.unusedSimpArgs false
namespace Vk
open PySem PySem.Spec PyProof.Rows L2
def top (i : Nat) : Stmt := PySem.Challenge.pw_trothbase_k07_forms_of_pages.main.body.getD i (.Pass ⟨0, 0, 0, 0⟩)
structure Tx (K : PySem.W.Frag) (mg : Str → Option Value) : Prop where
  int : mg "int" = none
  bool : mg "bool" = none
  str : mg "str" = none
  tuple : mg "tuple" = none
  list : mg "list" = none
  type : mg "type" = none
  isinstance : mg "isinstance" = none
  len : mg "len" = none
  all : mg "all" = none
  range : mg "range" = none
  min : mg "min" = none
  mg_MOST_TUPLES : ∃ t, mg "MOST_TUPLES" = some (.int 30 t)
  mg_INTEGER_BOUND : ∃ t, mg "INTEGER_BOUND" = some (.int (10 ^ 60) t)
  mg_MOST_PARTS : ∃ t, mg "MOST_PARTS" = some (.int 6 t)
theorem gTy_of {M : MH} {d : Dv} {n : String} {Q : DK} (e : tyN M d = some n) (ns : ∀ ns, d ≠ .scr ns) (q : Q (.ty n) M) : gTy [d] M Q := by
  unfold gTy
  split
  · rename_i e1
    cases e1
    exact (ns _ rfl).elim
  · rename_i e1
    cases e1
    rw [e]
    exact q
  · rename_i e1 e2
    exact (e2 _ rfl).elim
section
variable {P : Program} {w : World} {K : PySem.W.Frag} {mg : Str → Option Value} {base : Heap}
def F_is_integer : DF := fun ds M Q => ∃ d n, ds = [d] ∧ tyN M d = some n ∧ (∀ ns, d ≠ .scr ns) ∧ Q (.bl (decide (n = "int"))) M
theorem len_is_integer : ∀ ds M R, F_is_integer ds M R → ds.length = ["value"].length := by
  rintro _ _ _ ⟨d, n, rfl, _⟩
  rfl
abbrev s_is_integer : Stmt := top 5
theorem sc_is_integer : FnScope ["value"] ["value"] (defScope s_is_integer) := ⟨rfl, rfl, rfl, by decide +kernel, rfl, by decide +kernel, by decide +kernel⟩
theorem ok_is_integer {f : Addr} {fd : FuncData} (Fn : L2.Fun K "is_integer" "is_integer" s_is_integer f fd) (T : Tx K mg) : Gk P w K mg base 1 f fd ["value"] (spD K F_is_integer) := by
  refine dfun Fn sc_is_integer (len_is_integer) (fun cd A out s H E hg hr => ⟨_, _, (ss_one (s_ret (d_cmp o_isTy (d_cty (k_type (K := K)) (by rfl) T.type (by decide +kernel) (a_cons (dv 0) a_nil)) (d_tyname (n := "int") (by rfl) T.int (by decide +kernel)) (nomark _)))), ?_⟩)
  rintro ds M R ⟨d, n, rfl, e, ns, q⟩
  refine gTy_of e ns ?_
  exact q
end
end Vk
set_option linter.unusedVariables false
set_option linter.unusedSimpArgs false
namespace Vk
open PySem PySem.Spec PyProof.Rows L2
/-! ## plain data -/
mutual
/-- no script in it; each object is known -/
def knownD (M : MH) : Dv → Bool
  | .scr _ => false
  | .ty _ => false
  | .ref p => match M p with
    | some (.lst _) => true
    | some (.dK _) => true
    | _ => false
  | .tup ds => knownDs M ds
  | _ => true
def knownDs (M : MH) : List Dv → Bool
  | [] => true
  | d :: ds => knownD M d && knownDs M ds
end
def atomD : Dv → Bool
  | .non => true
  | .bl _ => true
  | .int i => decide (-(10 ^ 60) < i) && decide (i < 10 ^ 60)
  | .str _ => true
  | _ => false
mutual
def plainD (n : Nat) : Dv → Bool
  | .tup ds => decide (n < 30) && plainDs (n + 1) ds
  | d => atomD d
def plainDs (n : Nat) : List Dv → Bool
  | [] => true
  | d :: ds => plainD n d && plainDs n ds
end
mutual
def sizeD : Dv → Nat
  | .tup ds => 1 + sizeDs ds
  | _ => 1
def sizeDs : List Dv → Nat
  | [] => 0
  | d :: ds => sizeD d + sizeDs ds
end
theorem knownDs_all (M : MH) : ∀ ds : List Dv, knownDs M ds = ds.all (knownD M)
  | [] => rfl
  | d :: ds => by rw [knownDs, knownDs_all M ds, List.all_cons]
theorem plainDs_all (n : Nat) : ∀ ds : List Dv, plainDs n ds = ds.all (plainD n)
  | [] => rfl
  | d :: ds => by rw [plainDs, plainDs_all n ds, List.all_cons]
theorem sizeDs_sum : ∀ ds : List Dv, sizeDs ds = (ds.map sizeD).sum
  | [] => rfl
  | d :: ds => by rw [sizeDs, sizeDs_sum ds, List.map_cons, List.sum_cons]
theorem knownD_tup (M : MH) (ds : List Dv) : knownD M (.tup ds) = ds.all (knownD M) := by rw [knownD, knownDs_all]
theorem plainD_tup (n : Nat) (ds : List Dv) : plainD n (.tup ds) = (decide (n < 30) && ds.all (plainD (n + 1))) := by rw [plainD, plainDs_all]
theorem sizeD_tup (ds : List Dv) : sizeD (.tup ds) = 1 + (ds.map sizeD).sum := by rw [sizeD, sizeDs_sum]
theorem sizeD_pos (d : Dv) : 1 ≤ sizeD d := by
  cases d with
  | tup ds => rw [sizeD_tup]; omega
  | _ => simp [sizeD]
def isTup : Dv → Bool
  | .tup _ => true
  | _ => false
theorem known_ty {M : MH} {d : Dv} (h : knownD M d = true) : ∃ n, tyN M d = some n ∧ (∀ ns, d ≠ .scr ns) ∧ decide (n = "tuple") = isTup d := by
  cases d with
  | scr ns => simp [knownD] at h
  | ty n => simp [knownD] at h
  | ref p =>
    unfold knownD at h
    unfold tyN
    simp only at h ⊢
    cases e : M p with
    | none => rw [e] at h; simp at h
    | some o =>
      rw [e] at h
      cases o with
      | lst ds => exact ⟨_, rfl, (fun ns z => by cases z), rfl⟩
      | dK ds => exact ⟨_, rfl, (fun ns z => by cases z), rfl⟩
      | _ => simp at h
  | _ => exact ⟨_, rfl, (fun ns z => by cases z), rfl⟩
mutual
theorem known_up {M M' : MH} (h : MLe M M') : ∀ {d : Dv}, knownD M d = true → knownD M' d = true
  | .scr _, k => by simp [knownD] at k
  | .ty _, k => by simp [knownD] at k
  | .ref p, k => by
    simp only [knownD] at k ⊢
    cases e : M p with
    | none => rw [e] at k; simp at k
    | some o => rw [h _ _ e]; rw [e] at k; exact k
  | .tup ds, k => by
    simp only [knownD] at k ⊢
    exact knowns_up h k
  | .non, _ => rfl
  | .bl _, _ => rfl
  | .int _, _ => rfl
  | .str _, _ => rfl
  | .lst _, _ => rfl
theorem knowns_up {M M' : MH} (h : MLe M M') : ∀ {ds : List Dv}, knownDs M ds = true → knownDs M' ds = true
  | [], _ => rfl
  | d :: ds, k => by
    simp only [knownDs, Bool.and_eq_true] at k ⊢
    exact ⟨known_up h k.1, knowns_up h k.2⟩
end
theorem len_size : ∀ ds : List Dv, ds.length ≤ (ds.map sizeD).sum
  | [] => Nat.le_refl _
  | d :: ds => by
    have := sizeD_pos d
    have := len_size ds
    simp only [List.length_cons, List.map_cons, List.sum_cons]
    omega
theorem len_sizeW : ∀ es : List (Dv × Nat), es.length ≤ (es.map fun e => sizeD e.1).sum
  | [] => Nat.le_refl _
  | e :: es => by
    have := sizeD_pos e.1
    have := len_sizeW es
    simp only [List.length_cons, List.map_cons, List.sum_cons]
    omega
section
variable {P : Program} {w : World} {K : PySem.W.Frag} {mg : Str → Option Value} {base : Heap}
def F_atom : DF := fun ds M Q => ∃ d, ds = [d] ∧ knownD M d = true ∧ isTup d = false ∧ Q (.bl (atomD d)) M
theorem len_atom : ∀ ds M R, F_atom ds M R → ds.length = ["value"].length := by
  rintro _ _ _ ⟨d, rfl, _⟩
  rfl
abbrev s_atom : Stmt := top 4
theorem sc_atom : FnScope ["value"] ["value"] (defScope s_atom) := ⟨rfl, rfl, rfl, by decide +kernel, rfl, by decide +kernel, by decide +kernel⟩
theorem ok_atom {f : Addr} {fd : FuncData} (Fn : L2.Fun K "_is_plain_atom" "_is_plain_atom" s_atom f fd) (T : Tx K mg) (C_is_integer : DCal P w K mg base "is_integer" 1 F_is_integer) : Gk P w K mg base 2 f fd ["value"] (spD K F_atom) := by
  refine dfun Fn sc_atom (len_atom) (fun cd A out s H E hg hr => ⟨_, _, (ss_cons (s_if (t_val (k_call (K := K) hg C_is_integer hr rfl (a_cons (dv 0) a_nil))) (ss_one (s_ret (d_chain o_lt o_lt (d_neg (d_cint (by rfl) T.mg_INTEGER_BOUND)) (dv 0) (d_cint (by rfl) T.mg_INTEGER_BOUND)))) ss_nil)
  (ss_one (s_ret (d_or (d_cmp o_isN (dv 0) d_non (nomark _)) (d_or (d_cmp o_isTy (d_cty (k_type (K := K)) (by rfl) T.type (by decide +kernel) (a_cons (dv 0) a_nil)) (d_tyname (n := "bool") (by rfl) T.bool (by decide +kernel)) (nomark _)) (d_one (d_cmp o_isTy (d_cty (k_type (K := K)) (by rfl) T.type (by decide +kernel) (a_cons (dv 0) a_nil)) (d_tyname (n := "str") (by rfl) T.str (by decide +kernel)) (nomark _)))))))), ?_⟩)
  rintro ds M R ⟨d, rfl, kn, nt, q⟩
  obtain ⟨n, e, ns, _⟩ := known_ty kn
  refine ⟨d, n, rfl, e, ns, ?_⟩
  cases d with
  | int i =>
    cases e
    show (if decide (-(10 ^ (60 : Nat)) < i) = true then _ else _)
    simp only [atomD] at q
    by_cases c : (-(10 ^ 60) : Int) < i
    · rw [if_pos (decide_eq_true c)]
      rw [decide_eq_true c, Bool.true_and] at q
      exact q
    · rw [decide_eq_false c, Bool.false_and] at q
      rw [if_neg (by rw [decide_eq_false c]; exact Bool.false_ne_true)]
      exact q
  | non => cases e; exact q
  | bl b =>
    cases e
    refine gTy_of (n := "bool") rfl ns ?_
    exact q
  | str x =>
    cases e
    refine gTy_of (n := "str") rfl ns ?_
    refine gTy_of (n := "str") rfl ns ?_
    exact q
  | tup ds => cases nt
  | scr ns => simp [knownD] at kn
  | ty n => simp [knownD] at kn
  | lst ds =>
    cases e
    refine gTy_of (n := "list") rfl ns ?_
    refine gTy_of (n := "list") rfl ns ?_
    exact q
  | ref p =>
    have n1 : ¬ n = "int" := fun z => by
      subst z
      unfold tyN at e
      simp only at e
      split at e <;> simp at e
    have n2 : ¬ n = "bool" := fun z => by
      subst z
      unfold tyN at e
      simp only at e
      split at e <;> simp at e
    have n3 : ¬ n = "str" := fun z => by
      subst z
      unfold tyN at e
      simp only at e
      split at e <;> simp at e
    simp only [dRet, dRetN, dSeq, dIfS, dSet, dDrop, dAsg, dNext, dMatch, dCase, dV, dC, dOp, dCB, dCall, dACons, dANil, dTup, dLst, dLstM, dFrz, dB, dTru, dNotT, dAndT, dOrT, dAnd, dOr, dNot, dIf, dNeg, dChain, dYes, dstart, sName, sNil, sCons, sTup, gI, gMinus, gAdd, gLt, gLe, gB, gEq, eqS, gIsN, isNonD, gIsB, gIsTy, gTy, gIx, gSl, dSl, dPNone, dPSome, gLen, gTupOf, gLstOf, gOrd, gInt, gII, gIsi, gMul, List.getElem?_cons_zero, List.getElem?_cons_succ, List.set_cons_zero, List.set_cons_succ, List.map_cons, List.map_nil, List.length_cons, List.length_nil, List.replicate_succ, List.replicate_zero, List.cons_append, List.nil_append, Nat.reduceAdd, Nat.reduceSub, if_pos, if_neg, Bool.false_eq_true, reduceIte, decide_true, decide_false, Bool.not_true, Bool.not_false, e, n1, n2, n3]
    exact q
def F_is_plain : DF := fun ds M Q => ∃ d, ds = [d] ∧ knownD M d = true ∧ sizeD d ≤ 100000 ∧ Q (.bl (plainD 0 d)) M
theorem len_is_plain : ∀ ds M R, F_is_plain ds M R → ds.length = ["value"].length := by
  rintro _ _ _ ⟨d, rfl, _⟩
  rfl
/-- an entry that waits: the value and the tuples around it -/
abbrev WE := Dv × Nat
def weD (e : WE) : Dv := .tup [e.1, .int (e.2 : Nat)]
def sizeW (es : List WE) : Nat := (es.map fun e => sizeD e.1).sum
abbrev s_is_plain : Stmt := top 3
theorem sc_is_plain : FnScope ["value", "waiting", "part", "around", "inner"] ["value"] (defScope s_is_plain) := ⟨rfl, rfl, rfl, by decide +kernel, rfl, by decide +kernel, by decide +kernel⟩
theorem ok_is_plain {f : Addr} {fd : FuncData} (Fn : L2.Fun K "is_plain" "is_plain" s_is_plain f fd) (T : Tx K mg) (C_is_plain_atom : DCal P w K mg base "_is_plain_atom" 2 F_atom) : Gk P w K mg base 3 f fd ["value"] (spD K F_is_plain) := by
  refine dfunG Fn sc_is_plain (len_is_plain) (fun cd A out s H E hg hr => ⟨_, _, (ss_cons (s_set (i := 1) sc_is_plain.nd rfl (Or.inl rfl) (d_lstM (a_cons (d_tup (a_cons (dv 0) (a_cons d_int a_nil))) a_nil)))
  (ss_cons (s_while PassesOwn.never (k_truth (K := K) (dv 1))
  (ss_cons (s_asg (d_bm0 PySem.F.plainAttrs_list PySem.F.slot_list_pop PySem.F.type_list_pop mt_pop mt_popD (dv 1)) (kg_tup (K := K) (n := 2) rfl (gs_cons (g_name 2 sc_is_plain.nd) (gs_cons (g_name 3 sc_is_plain.nd) gs_nil))))
  (ss_one (s_if (t_cmp o_isTy (d_cty (k_type (K := K)) (by rfl) T.type (by decide +kernel) (a_cons (dv 2) a_nil)) (d_tyname (n := "tuple") (by rfl) T.tuple (by decide +kernel)) (nomark _)) (ss_cons (s_if (t_cmp (k_eq (K := K) hr.units) (dv 3) (d_cint (by rfl) T.mg_MOST_TUPLES) (nomark _)) (ss_one (s_ret d_bl)) ss_nil)
  (ss_one (s_expr (d_bm PySem.F.plainAttrs_list PySem.F.slot_list_extend PySem.F.type_list_extend mt_extend mt_ext (dv 1) (a_cons (d_lc (own := [("inner", 4)]) rfl sc_is_plain.nd (k_tup_ (K := K) (dv 2)) (blkOk_by (N := ["value", "waiting", "part", "around", "inner"]) (sc := defScope s_is_plain) (by decide +kernel)) (fun _ _ _ _ _ => (g_name 4 sc_is_plain.nd)) (fun _ _ _ _ _ => pts_nil) rt_yes (fun _ _ _ _ _ => (d_tup (a_cons (dv 4) (a_cons (d_op (k_add (K := K)) (dv 3) d_int) a_nil))))) a_nil))))) (ss_one (s_if (t_not (t_val (k_call (K := K) hg C_is_plain_atom hr rfl (a_cons (dv 2) a_nil)))) (ss_one (s_ret d_bl)) ss_nil))))))
  (ss_one (s_ret d_bl)))), ?_⟩)
  rintro ds M R ⟨d, rfl, kn, sz, q⟩
  have line : (sizeLine : Nat) = 16777216 := by decide +kernel
  intro p hp
  refine ⟨fun m env M' => ∃ (x2 x3 x4 : Option Dv) (es : List WE), env = [some d, some (.ref p), x2, x3, x4] ∧ M' = mup M p (.lst (es.map weD)) ∧ (∀ e ∈ es, knownD M e.1 = true ∧ e.2 ≤ 30) ∧ plainD 0 d = (es.all fun e => plainD e.2 e.1) ∧ sizeW es = m ∧ m ≤ 100000,
    ⟨sizeD d, none, none, none, [(d, 0)], rfl, rfl, by simpa using kn, by simp, by simp [sizeW], sz⟩, ?_⟩
  rintro m env M' ⟨x2, x3, x4, es, rfl, rfl, hk, hpl, hm, hle⟩
  have upp : ∀ {o : MO}, MLe M (mup M p o) := fun {o} => MLe.up hp
  show (match (mup M p (.lst (es.map weD))) p with | some (.lst ds) => _ | _ => False)
  rw [mup_same]
  rcases List.eq_nil_or_concat es with rfl | ⟨es', e, hcc⟩
  · rw [hpl] at q
    exact ⟨M, upp, q⟩
  · rw [List.concat_eq_append] at hcc
    subst hcc
    obtain ⟨v, n⟩ := e
    refine ifT (by simp) ?_
    have hkv := hk (v, n) (by simp)
    have hk' : ∀ e ∈ es', knownD M e.1 = true ∧ e.2 ≤ 30 := fun e he => hk e (by simp [he])
    have lmap : (es' ++ [(v, n)]).map weD = es'.map weD ++ [.tup [v, .int (n : Nat)]] := by rw [List.map_append]; rfl
    rw [lmap]
    show dMeth1 (dV 1) dANil gPop [some d, some (.ref p), x2, x3, x4] _ _
    refine meth_go0 rfl mup_same (pop_go ?_)
    rw [mup_mup]
    refine ⟨rfl, ?_⟩
    have sz1 : sizeW (es' ++ [(v, n)]) = sizeW es' + sizeD v := by simp [sizeW]
    rw [sz1] at hm
    rw [List.all_append] at hpl
    have hpl1 : ([(v, n)].all fun e => plainD e.2 e.1) = plainD n v := by simp
    rw [hpl1] at hpl
    obtain ⟨ty, ety, nsc, etup⟩ := known_ty (known_up upp hkv.1 : knownD (mup M p (.lst (es'.map weD))) v = true)
    refine gTy_of ety nsc ?_
    show (if decide (ty = "tuple") = true then _ else _)
    rw [etup]
    cases ht : isTup v with
    | true =>
      cases v with
      | tup vs =>
        rw [if_pos rfl]
        rw [plainD_tup] at hpl
        show (if decide ((n : Int) = 30) = true then _ else _)
        by_cases c : n = 30
        · rw [if_pos (decide_eq_true (by omega))]
          rw [hpl, decide_eq_false (show ¬ n < 30 by omega), Bool.false_and, Bool.and_false] at q
          exact ⟨M, upp, q⟩
        · rw [if_neg (by rw [decide_eq_false (show ¬ (n : Int) = 30 by omega)]; exact Bool.false_ne_true)]
          rw [decide_eq_true (show n < 30 by omega), Bool.true_and] at hpl
          show dMeth1 (dV 1) _ gExt [some d, some (.ref p), some (.tup vs), some (.int (n : Nat)), x4] _ _
          refine meth_go rfl mup_same ?_
          have kvs : ∀ x ∈ vs, knownD M x = true := by
            have z := hkv.1
            rw [knownD_tup, List.all_eq_true] at z
            exact z
          have szv : sizeD (.tup vs) = 1 + (vs.map sizeD).sum := sizeD_tup vs
          have lvs : vs.length ≤ (vs.map sizeD).sum := len_size vs
          refine dLc_map vs (fun x => .tup [x, .int ((n : Int) + 1)]) tru (fun R h => h) (by omega) trivial (fun x hx R hR => hR) ?_
          show (match (mup M p (.lst (es'.map weD))) p with | some (.lst ys) => gExt p ys [_] _ _ | _ => False)
          rw [mup_same]
          refine ⟨?_, ?_⟩
          · rw [List.length_map, List.length_map]
            have : es'.length ≤ sizeW es' := len_sizeW es'
            omega
          · rw [mup_mup]
            have hn : 1 ≤ sizeD (.tup vs) := sizeD_pos _
            refine ⟨sizeW es' + (vs.map sizeD).sum, by omega, _, _, _, es' ++ vs.map fun x => (x, n + 1), rfl, ?_, ?_, ?_, ?_, by omega⟩
            · rw [List.map_append, List.map_map]
              congr 3
            · intro e he
              rcases List.mem_append.mp he with h | h
              · exact hk' e h
              · obtain ⟨x, hx, rfl⟩ := List.mem_map.mp h
                exact ⟨kvs x hx, by omega⟩
            · rw [hpl, List.all_append, List.all_map]
              rfl
            · unfold sizeW
              rw [List.map_append, List.sum_append, List.map_map]
              rfl
      | _ => cases ht
    | false =>
      rw [if_neg Bool.false_ne_true]
      have pa : plainD n v = atomD v := by
        cases v with
        | tup _ => cases ht
        | _ => rfl
      refine ⟨v, rfl, known_up upp hkv.1, ht, ?_⟩
      show (if (!atomD v) = true then _ else _)
      rw [pa] at hpl
      cases ha : atomD v with
      | false =>
        rw [hpl, ha, Bool.and_false] at q
        exact ⟨M, upp, q⟩
      | true =>
        rw [ha, Bool.and_true] at hpl
        have hn : 1 ≤ sizeD v := sizeD_pos _
        exact ⟨sizeW es', by omega, _, _, _, es', rfl, rfl, hk', hpl, rfl, by omega⟩
end
end Vk
set_option linter.unusedVariables false
set_option linter.unusedSimpArgs false
namespace Vk
open PySem PySem.Spec PyProof.Rows L2
/-! ## plain data, which may be compared -/
mutual
def pln : Dv → Bool
  | .tup ds => plns ds
  | .str x => PyData.strOk x && decide (x.length ≤ 100000)
  | d => atomD d
def plns : List Dv → Bool
  | [] => true
  | d :: ds => pln d && plns ds
end
mutual
def depD : Dv → Nat
  | .tup ds => 1 + depDs ds
  | _ => 0
def depDs : List Dv → Nat
  | [] => 0
  | d :: ds => max (depD d) (depDs ds)
end
theorem plns_all : ∀ ds : List Dv, plns ds = ds.all pln
  | [] => rfl
  | d :: ds => by rw [plns, plns_all ds, List.all_cons]
theorem pln_tup (ds : List Dv) : pln (.tup ds) = ds.all pln := by rw [pln, plns_all]
mutual
theorem pln_lay : ∀ d : Dv, pln d = true → (toP d).canLay0 = true ∧ datD d = true ∧ (toP d).depth = depD d
  | .non, _ => ⟨rfl, rfl, rfl⟩
  | .bl _, _ => ⟨rfl, rfl, rfl⟩
  | .int _, _ => ⟨rfl, rfl, rfl⟩
  | .str x, h => ⟨by
      simp only [pln, Bool.and_eq_true] at h
      simpa [toP, PyData.canLay0] using h.1, rfl, rfl⟩
  | .tup ds, h => by
    obtain ⟨h1, h2, h3⟩ := plns_lay ds (by simpa [pln] using h)
    refine ⟨by simpa [toP, PyData.canLay0] using h1, by simpa [datD] using h2, ?_⟩
    simp only [toP, PyData.depth, depD, h3]
    omega
  | .lst _, h => by simp [pln, atomD] at h
  | .scr _, h => by simp [pln, atomD] at h
  | .ref _, h => by simp [pln, atomD] at h
  | .ty _, h => by simp [pln, atomD] at h
theorem plns_lay : ∀ ds : List Dv, plns ds = true → PyData.canLayAll0 (toPs ds) = true ∧ datDs ds = true ∧ PyData.depthAll (toPs ds) = depDs ds
  | [], _ => ⟨rfl, rfl, rfl⟩
  | d :: ds, h => by
    have h' : pln d = true ∧ plns ds = true := by simpa [plns] using h
    obtain ⟨a1, a2, a3⟩ := pln_lay d h'.1
    obtain ⟨b1, b2, b3⟩ := plns_lay ds h'.2
    simp only [toPs, PyData.canLayAll0, datDs, PyData.depthAll, depDs, a1, a2, a3, b1, b2, b3, Bool.and_self]
    exact ⟨trivial, trivial, trivial⟩
end
/-- what the forms look at -/
structure OkF (d : Dv) : Prop where
  p : pln d = true
  q : depD d ≤ 31
  s : sizeD d ≤ 100000
def isIntV : Dv → Bool
  | .int _ => true
  | _ => false
def isStrV : Dv → Bool
  | .str _ => true
  | _ => false
theorem size_mem : ∀ {ds : List Dv} {d : Dv}, d ∈ ds → sizeD d ≤ (ds.map sizeD).sum
  | [], _, h => by cases h
  | x :: r, d, h => by
    rw [List.map_cons, List.sum_cons]
    rcases List.mem_cons.mp h with rfl | h
    · omega
    · have := size_mem h
      omega
theorem OkF.len {ds : List Dv} (h : OkF (.tup ds)) : ds.length ≤ 100000 := by
  have a := h.s
  have b := len_size ds
  rw [sizeD_tup] at a
  omega
theorem OkF.shp {d : Dv} (h : OkF d) : shp d = true := by
  obtain ⟨h1, h2, h3⟩ := pln_lay d h.p
  unfold Vk.shp SeqAt.shaped
  rw [h1, h2, decide_eq_true (by have := h.q; omega)]
  rfl
theorem depDs_mem : ∀ {ds : List Dv} {d : Dv}, d ∈ ds → depD d ≤ depDs ds
  | [], _, h => by cases h
  | x :: r, d, h => by
    simp only [depDs]
    rcases List.mem_cons.mp h with rfl | h
    · omega
    · have := depDs_mem h
      omega
theorem OkF.mem {ds : List Dv} (h : OkF (.tup ds)) {d : Dv} (hd : d ∈ ds) : OkF d := by
  refine ⟨?_, ?_, ?_⟩
  · have z := h.p
    rw [pln_tup, List.all_eq_true] at z
    exact z d hd
  · have z := h.q
    have y := depDs_mem hd
    simp only [depD] at z
    omega
  · have z := h.s
    have y := size_mem hd
    rw [sizeD_tup] at z
    omega
theorem OkF.lit {d : Dv} (h : OkF d) (s : Str) : eqLit d s = some (match d with | .str x => decide (x = s) | _ => false) := by
  have z := h.shp
  cases d with
  | tup ds => simp only [eqLit]; rw [if_pos z]
  | str x => rfl
  | non => rfl
  | bl b => rfl
  | int i => rfl
  | lst ds => have := h.p; simp [pln, atomD] at this
  | scr ds => have := h.p; simp [pln, atomD] at this
  | ref ds => have := h.p; simp [pln, atomD] at this
  | ty ds => have := h.p; simp [pln, atomD] at this
theorem OkF.ty_ {d : Dv} (h : OkF d) (M : MH) : ∃ n, tyN M d = some n ∧ (∀ ns, d ≠ .scr ns) ∧ decide (n = "int") = isIntV d ∧ kitv n "str" = isStrV d ∧ kitv n "tuple" = isTup d := by
  have z := h.p
  cases d with
  | lst ds => simp [pln, atomD] at z
  | scr ds => simp [pln, atomD] at z
  | ref ds => simp [pln, atomD] at z
  | ty ds => simp [pln, atomD] at z
  | _ => exact ⟨_, rfl, (fun ns z => by cases z), rfl, rfl, rfl⟩
mutual
/-- texts as they may be -/
def txtD : Dv → Bool
  | .tup ds => txtDs ds
  | .str x => PyData.strOk x && decide (x.length ≤ 100000)
  | _ => true
def txtDs : List Dv → Bool
  | [] => true
  | d :: ds => txtD d && txtDs ds
end
/-! from is_plain -/
mutual
theorem plain_pln : ∀ (d : Dv) (n : Nat), plainD n d = true → txtD d = true → n ≤ 30 → pln d = true ∧ n + depD d ≤ 30
  | .tup ds, n, h, l, hn => by
    simp only [plainD, Bool.and_eq_true] at h
    have hn' := of_decide_eq_true h.1
    obtain ⟨a, b⟩ := plains_pln ds (n + 1) h.2 (by simpa [txtD] using l) (by omega)
    refine ⟨by simpa [pln] using a, ?_⟩
    simp only [depD]
    omega
  | .str x, n, h, l, hn => ⟨by simpa [pln, txtD] using l, by simp only [depD]; omega⟩
  | .non, n, h, l, hn => ⟨rfl, by simp only [depD]; omega⟩
  | .bl _, n, h, l, hn => ⟨rfl, by simp only [depD]; omega⟩
  | .int _, n, h, l, hn => ⟨by simpa [pln, plainD] using h, by simp only [depD]; omega⟩
  | .lst _, n, h, l, hn => by simp [plainD, atomD] at h
  | .scr _, n, h, l, hn => by simp [plainD, atomD] at h
  | .ref _, n, h, l, hn => by simp [plainD, atomD] at h
  | .ty _, n, h, l, hn => by simp [plainD, atomD] at h
theorem plains_pln : ∀ (ds : List Dv) (n : Nat), plainDs n ds = true → txtDs ds = true → n ≤ 30 → plns ds = true ∧ n + depDs ds ≤ 30
  | [], n, h, l, hn => ⟨rfl, by simp only [depDs]; omega⟩
  | d :: ds, n, h, l, hn => by
    have h' : plainD n d = true ∧ plainDs n ds = true := by simpa [plainDs] using h
    have l' : txtD d = true ∧ txtDs ds = true := by simpa [txtDs] using l
    obtain ⟨a1, a2⟩ := plain_pln d n h'.1 l'.1 hn
    obtain ⟨b1, b2⟩ := plains_pln ds n h'.2 l'.2 hn
    refine ⟨by simp only [plns, a1, b1, Bool.and_self], ?_⟩
    simp only [depDs]
    omega
end
theorem iteBF {A B : Prop} {c : Bool} (h : c = false) (b : B) : if c = true then A else B := by rw [h, if_neg Bool.false_ne_true]; exact b
theorem iteBT {A B : Prop} {c : Bool} (h : c = true) (b : A) : if c = true then A else B := by rw [h, if_pos rfl]; exact b
theorem iteB {A B : Prop} {c : Bool} (h1 : c = true → A) (h2 : c = false → B) : if c = true then A else B := by
  cases c with
  | true => exact h1 rfl
  | false => exact h2 rfl
theorem q_of {R : DK} {M : MH} {b c : Bool} (q : R (.bl b) M) (e : b = c) : R (.bl c) M := by rw [← e]; exact q
def okB (f : Dv → Bool) : DF := fun ds M Q => ∃ d, ds = [d] ∧ OkF d ∧ Q (.bl (f d)) M
end Vk
set_option linter.unusedVariables false
set_option linter.unusedSimpArgs false
namespace Vk
open PySem PySem.Spec PyProof.Rows L2
/-- how a pattern's first word decides -/
theorem mp_lit {d : Dv} (ok : OkF d) (s : Str) (ps : List DPat) (ds : List Dv) : matchP (.lit s :: ps) (d :: ds) = (match (match d with | .str x => decide (x = s) | _ => false) with | true => matchP ps ds | false => some none) := by
  rw [matchP, ok.lit]
  cases d <;> first
    | rfl
    | (simp only; split <;> rename_i h <;> first | (cases h; done) | (injection h with h; rw [h]))
theorem mp_names : ∀ {m : Nat} {ds : List Dv}, ds.length = m → matchP (List.replicate m .name) ds = some (some ds)
  | 0, [], _ => rfl
  | 0, _ :: _, h => by cases h
  | m + 1, [], h => by cases h
  | m + 1, d :: ds, h => by
    rw [List.replicate_succ, matchP, mp_names (m := m) (by simpa using h)]
theorem case_word {s : Str} (m : Nat) {Fs : DGs} {T : DS} {Rs : DCs} {d : Dv} {E : DEnds} {env : DEnv} {M : MH} (ok : OkF d)
    (hit : ∀ ds, d = .tup (.str s :: ds) → ds.length = m → Fs ds env M fun env1 M1 => T E env1 M1) (miss : (∀ ds, ds.length = m → d ≠ .tup (.str s :: ds)) → Rs d E env M) : dCase (.lit s :: List.replicate m .name) Fs T Rs d E env M := by
  have z := ok.p
  cases d with
  | tup ds =>
    unfold dCase
    show (if ds.length = (DPat.lit s :: List.replicate m .name).length then _ else _)
    rw [List.length_cons, List.length_replicate]
    split
    · rename_i hl
      cases ds with
      | nil => cases hl
      | cons a r =>
        have hr : r.length = m := by simpa using hl
        have oa := ok.mem (d := a) List.mem_cons_self
        rw [mp_lit oa, mp_names hr]
        cases a with
        | str x =>
          by_cases e : x = s
          · subst e
            simp only [decide_true]
            exact hit r rfl hr
          · simp only [decide_eq_false e]
            exact miss fun ds _ h => e (by injection h with h; injection h with h _; injection h)
        | _ => exact miss fun ds _ h => by injection h with h; injection h with h _; cases h
    · rename_i hl
      exact miss fun ds h1 h2 => hl (by injection h2 with h2; rw [h2, List.length_cons, h1])
  | non => unfold dCase; exact miss fun ds _ h => by cases h
  | bl b => unfold dCase; exact miss fun ds _ h => by cases h
  | int b => unfold dCase; exact miss fun ds _ h => by cases h
  | str b => unfold dCase; exact miss fun ds _ h => by cases h
  | lst b => simp [pln, atomD] at z
  | scr b => simp [pln, atomD] at z
  | ref b => simp [pln, atomD] at z
  | ty b => simp [pln, atomD] at z
theorem case_names (m : Nat) {q : List DPat} {Fs : DGs} {T : DS} {Rs : DCs} {d : Dv} {E : DEnds} {env : DEnv} {M : MH} (ok : OkF d)
    (hit : ∀ ds, d = .tup ds → ds.length = m → Fs ds env M fun env1 M1 => T E env1 M1) (miss : (∀ ds, ds.length = m → d ≠ .tup ds) → Rs d E env M) (hq : q = List.replicate m .name := by rfl) : dCase q Fs T Rs d E env M := by
  subst hq
  have z := ok.p
  cases d with
  | tup ds =>
    unfold dCase
    show (if ds.length = (List.replicate m DPat.name).length then _ else _)
    rw [List.length_replicate]
    split
    · rename_i hl
      rw [mp_names hl]
      exact hit ds rfl hl
    · rename_i hl
      exact miss fun ds h1 h2 => hl (by injection h2 with h2; rw [h2, h1])
  | non => unfold dCase; exact miss fun ds _ h => by cases h
  | bl b => unfold dCase; exact miss fun ds _ h => by cases h
  | int b => unfold dCase; exact miss fun ds _ h => by cases h
  | str b => unfold dCase; exact miss fun ds _ h => by cases h
  | lst b => simp [pln, atomD] at z
  | scr b => simp [pln, atomD] at z
  | ref b => simp [pln, atomD] at z
  | ty b => simp [pln, atomD] at z
theorem len0 {ds : List Dv} (h : ds.length = 0) : ds = [] := List.eq_nil_of_length_eq_zero h
theorem len1 {ds : List Dv} (h : ds.length = 1) : ∃ a, ds = [a] := List.length_eq_one_iff.mp h
theorem len2 {ds : List Dv} (h : ds.length = 2) : ∃ a b, ds = [a, b] := by
  match ds, h with
  | [a, b], _ => exact ⟨a, b, rfl⟩
theorem len3 {ds : List Dv} (h : ds.length = 3) : ∃ a b c, ds = [a, b, c] := by
  match ds, h with
  | [a, b, c], _ => exact ⟨a, b, c, rfl⟩

/-! ## pages -/
def partV : Dv → Bool
  | .int _ => true
  | .str _ => true
  | _ => false
def keyV : Dv → Bool
  | .tup ds => ds.all partV
  | _ => false
def twoV : Dv → Bool
  | .tup [_, _] => true
  | _ => false
def pairsV (least : Nat) : Dv → Bool
  | .tup ds => decide (least ≤ ds.length) && decide (ds.length ≤ 6) && ds.all twoV
  | _ => false
def entryV : Dv → Bool
  | .tup [k, _] => keyV k
  | _ => false
def atleastV (n : Int) : Dv → Bool
  | .int i => decide (i ≥ n)
  | _ => false
def childV : Dv → Bool
  | .tup [k, i] => keyV k && atleastV 1 i
  | _ => false
def allV (g : Dv → Bool) : Dv → Bool
  | .tup ds => ds.all g
  | _ => false
def pageV : Dv → Bool
  | .tup [.str t, e] => if t = "leaf" then pairsV 0 e && allV entryV e else if t = "node" then pairsV 1 e && allV childV e else false
  | _ => false
theorem two_of {d : Dv} (h : twoV d = true) : ∃ a b, d = .tup [a, b] := by
  unfold twoV at h
  split at h
  · exact ⟨_, _, rfl⟩
  · cases h
section
variable {P : Program} {w : World} {K : PySem.W.Frag} {mg : Str → Option Value} {base : Heap}
def F_is_at_least : DF := fun ds M Q => ∃ d n, ds = [d, .int n] ∧ OkF d ∧ Q (.bl (atleastV n d)) M
theorem len_is_at_least : ∀ ds M R, F_is_at_least ds M R → ds.length = ["value", "least"].length := by
  rintro _ _ _ ⟨d, n, rfl, _⟩
  rfl
abbrev s_is_at_least : Stmt := top 6
theorem sc_is_at_least : FnScope ["value", "least"] ["value", "least"] (defScope s_is_at_least) := ⟨rfl, rfl, rfl, by decide +kernel, rfl, by decide +kernel, by decide +kernel⟩
theorem ok_is_at_least {f : Addr} {fd : FuncData} (Fn : L2.Fun K "is_at_least" "is_at_least" s_is_at_least f fd) (T : Tx K mg) (C_is_integer : DCal P w K mg base "is_integer" 1 F_is_integer) : Gk P w K mg base 2 f fd ["value", "least"] (spD K F_is_at_least) := by
  refine dfun Fn sc_is_at_least (len_is_at_least) (fun cd A out s H E hg hr => ⟨_, _, (ss_one (s_ret (d_and (k_call (K := K) hg C_is_integer hr rfl (a_cons (dv 0) a_nil)) (d_one (d_cmp o_ge (dv 0) (dv 1) (nomark _)))))), ?_⟩)
  rintro ds M R ⟨d, m, rfl, ok, q⟩
  obtain ⟨n, e1, e2, e3, e4, e5⟩ := ok.ty_ M
  refine ⟨d, n, rfl, e1, e2, ?_⟩
  show (if decide (n = "int") = true then _ else _)
  rw [e3]
  cases d <;> exact q
abbrev F_is_key : DF := okB keyV
abbrev len_is_key : ∀ ds M R, F_is_key ds M R → ds.length = ["value"].length := by
  rintro _ _ _ ⟨d, rfl, _⟩
  rfl
abbrev s_is_key : Stmt := top 11
theorem sc_is_key : FnScope ["value", "part"] ["value"] (defScope s_is_key) := ⟨rfl, rfl, rfl, by decide +kernel, rfl, by decide +kernel, by decide +kernel⟩
theorem ok_is_key {f : Addr} {fd : FuncData} (Fn : L2.Fun K "_is_key" "_is_key" s_is_key f fd) (T : Tx K mg) (C_is_integer : DCal P w K mg base "is_integer" 1 F_is_integer) : Gk P w K mg base 2 f fd ["value"] (spD K F_is_key) := by
  refine dfun Fn sc_is_key (len_is_key) (fun cd A out s H E hg hr => ⟨_, _, (ss_one (s_ret (d_and (d_cb (k_isi (K := K)) (by rfl) T.isinstance (by decide +kernel) (a_cons (dv 0) (a_cons (d_tyname (n := "tuple") (by rfl) T.tuple (by decide +kernel)) a_nil))) (d_one (d_cb (k_all (K := K) rfl) (by rfl) T.all (by decide +kernel) (a_cons (d_lc (own := [("part", 1)]) rfl sc_is_key.nd (k_tup_ (K := K) (dv 0)) (blkOk_by (N := ["value", "part"]) (sc := defScope s_is_key) (by decide +kernel)) (fun _ _ _ _ _ => (g_name 1 sc_is_key.nd)) (fun _ _ _ _ _ => pts_nil) rt_yes (fun _ _ _ _ _ => (d_or (k_call (K := K) hg C_is_integer hr rfl (a_cons (dv 1) a_nil)) (d_one (d_cb (k_isi (K := K)) (by rfl) T.isinstance (by decide +kernel) (a_cons (dv 1) (a_cons (d_tyname (n := "str") (by rfl) T.str (by decide +kernel)) a_nil))))))) a_nil)))))), ?_⟩)
  rintro ds M R ⟨d, rfl, ok, q⟩
  obtain ⟨n, e1, e2, e3, e4, e5⟩ := ok.ty_ M
  refine ⟨by decide, ?_⟩
  rw [e1]
  show (if kitv n "tuple" = true then _ else _)
  rw [e5]
  cases d with
  | tup xs =>
    show dLc _ _ dYes _ _ _ _ _
    have sz : (sizeLine : Nat) = 16777216 := by decide +kernel
    have lx : xs.length ≤ sizeLine := by have := ok.len; omega
    refine dLc_map xs (fun d => Dv.bl (partV d)) tru (fun R h => h) lx trivial (fun x hx R hR => ?_) ?_
    · have ox := ok.mem hx
      obtain ⟨n, f1, f2, f3, f4, f5⟩ := ox.ty_ M
      refine ⟨x, n, rfl, f1, f2, ?_⟩
      show (if decide (n = "int") = true then _ else _)
      rw [f3]
      have fin : ∀ b, b = partV x → R (.bl b) M := fun b e => by rw [e]; exact hR
      have go : partV x = isStrV x → gIsi [x, .ty "str"] M R := fun e => by
        refine ⟨by decide, ?_⟩
        rw [f1]
        show R (.bl (kitv n "str")) M
        rw [f4]
        exact fin _ (by rw [e])
      cases x with
      | int i => exact fin true rfl
      | str s => exact go rfl
      | tup s => exact go rfl
      | non => exact go rfl
      | bl s => exact go rfl
      | lst s => exact go rfl
      | scr s => exact go rfl
      | ref s => exact go rfl
      | ty s => exact go rfl
    · refine ⟨xs.map partV, by rw [List.map_map]; rfl, q_of q ?_⟩
      show xs.all partV = (xs.map partV).all id
      rw [List.all_map]
      rfl
  | _ => exact q
def F_are_pairs : DF := fun ds M Q => ∃ d, ∃ n : Nat, ds = [d, .int (n : Nat)] ∧ OkF d ∧ Q (.bl (pairsV n d)) M
theorem len_are_pairs : ∀ ds M R, F_are_pairs ds M R → ds.length = ["parts", "least"].length := by
  rintro _ _ _ ⟨d, n, rfl, _⟩
  rfl
abbrev s_are_pairs : Stmt := top 10
theorem sc_are_pairs : FnScope ["parts", "least", "part"] ["parts", "least"] (defScope s_are_pairs) := ⟨rfl, rfl, rfl, by decide +kernel, rfl, by decide +kernel, by decide +kernel⟩
theorem ok_are_pairs {f : Addr} {fd : FuncData} (Fn : L2.Fun K "_are_pairs" "_are_pairs" s_are_pairs f fd) (T : Tx K mg) : Gk P w K mg base 1 f fd ["parts", "least"] (spD K F_are_pairs) := by
  refine dfun Fn sc_are_pairs (len_are_pairs) (fun cd A out s H E hg hr => ⟨_, _, (ss_cons (s_if (Tw.ts (w_or (t_not (t_val (d_cb (k_isi (K := K)) (by rfl) T.isinstance (by decide +kernel) (a_cons (dv 0) (a_cons (d_tyname (n := "tuple") (by rfl) T.tuple (by decide +kernel)) a_nil))))) (w_or1 (t_not (t_chain o_le o_le (dv 1) (d_cb (k_len (K := K)) (by rfl) T.len (by decide +kernel) (a_cons (dv 0) a_nil)) (d_cint (by rfl) T.mg_MOST_PARTS)))))) (ss_one (s_ret d_bl)) ss_nil)
  (ss_one (s_ret (d_cb (k_all (K := K) rfl) (by rfl) T.all (by decide +kernel) (a_cons (d_lc (own := [("part", 2)]) rfl sc_are_pairs.nd (k_tup_ (K := K) (dv 0)) (blkOk_by (N := ["parts", "least", "part"]) (sc := defScope s_are_pairs) (by decide +kernel)) (fun _ _ _ _ _ => (g_name 2 sc_are_pairs.nd)) (fun _ _ _ _ _ => pts_nil) rt_yes (fun _ _ _ _ _ => (d_and (d_cb (k_isi (K := K)) (by rfl) T.isinstance (by decide +kernel) (a_cons (dv 2) (a_cons (d_tyname (n := "tuple") (by rfl) T.tuple (by decide +kernel)) a_nil))) (d_one (d_cmp (k_eq (K := K) hr.units) (d_cb (k_len (K := K)) (by rfl) T.len (by decide +kernel) (a_cons (dv 2) a_nil)) d_int (nomark _)))))) a_nil))))), ?_⟩)
  rintro ds M R ⟨d, lo, rfl, ok, q⟩
  obtain ⟨n, e1, e2, e3, e4, e5⟩ := ok.ty_ M
  have sz : (sizeLine : Nat) = 16777216 := by decide +kernel
  refine ⟨by decide, ?_⟩
  rw [e1]
  show (if (!kitv n "tuple") = true then _ else _)
  rw [e5]
  cases d with
  | tup xs =>
    have lx := ok.len
    have e : pairsV lo (.tup xs) = (decide (lo ≤ xs.length) && decide (xs.length ≤ 6) && xs.all twoV) := rfl
    show (if decide ((lo : Int) ≤ (xs.length : Nat)) = true then _ else _)
    by_cases c1 : lo ≤ xs.length
    · refine iteBT (decide_eq_true (by omega)) ?_
      show (if (!decide (((xs.length : Nat) : Int) ≤ 6)) = true then _ else _)
      by_cases c2 : xs.length ≤ 6
      · refine iteBF (by rw [decide_eq_true (show ((xs.length : Nat) : Int) ≤ 6 by omega)]; rfl) ?_
        show dLc _ _ dYes _ _ _ _ _
        refine dLc_map xs (fun d => Dv.bl (twoV d)) tru (fun R h => h) (by omega) trivial (fun x hx R hR => ?_) ?_
        · have ox := ok.mem hx
          obtain ⟨n, f1, f2, f3, f4, f5⟩ := ox.ty_ M
          refine ⟨by decide, ?_⟩
          rw [f1]
          show (if kitv n "tuple" = true then _ else _)
          rw [f5]
          cases x with
          | tup ys =>
            show R (.bl (decide (((ys.length : Nat) : Int) = 2))) M
            refine q_of (b := twoV (.tup ys)) hR ?_
            match ys with
            | [] => rfl
            | [_] => rfl
            | [_, _] => rfl
            | _ :: _ :: _ :: r =>
              symm
              refine decide_eq_false ?_
              simp only [List.length_cons]
              omega
          | _ => exact hR
        · refine ⟨xs.map twoV, by rw [List.map_map]; rfl, q_of q ?_⟩
          rw [e, decide_eq_true c1, decide_eq_true c2, Bool.true_and, Bool.true_and]
          show xs.all twoV = (xs.map twoV).all id
          rw [List.all_map]
          rfl
      · refine iteBT (by rw [decide_eq_false (show ¬ ((xs.length : Nat) : Int) ≤ 6 by omega)]; rfl) ?_
        exact q_of q (by rw [e, decide_eq_false c2, Bool.and_false, Bool.false_and])
    · refine iteBF (decide_eq_false (by omega)) ?_
      exact q_of q (by rw [e, decide_eq_false c1, Bool.false_and, Bool.false_and])
  | _ => exact q
def F_is_child : DF := fun ds M Q => ∃ a b, ds = [.tup [a, b]] ∧ OkF (.tup [a, b]) ∧ Q (.bl (childV (.tup [a, b]))) M
theorem len_is_child : ∀ ds M R, F_is_child ds M R → ds.length = ["pair"].length := by
  rintro _ _ _ ⟨a, b, rfl, _⟩
  rfl
abbrev s_is_child : Stmt := top 12
theorem sc_is_child : FnScope ["pair", "first", "name"] ["pair"] (defScope s_is_child) := ⟨rfl, rfl, rfl, by decide +kernel, rfl, by decide +kernel, by decide +kernel⟩
theorem ok_is_child {f : Addr} {fd : FuncData} (Fn : L2.Fun K "_is_child" "_is_child" s_is_child f fd) (T : Tx K mg) (C_is_key : DCal P w K mg base "_is_key" 2 F_is_key) (C_is_at_least : DCal P w K mg base "is_at_least" 2 F_is_at_least) : Gk P w K mg base 3 f fd ["pair"] (spD K F_is_child) := by
  refine dfun Fn sc_is_child (len_is_child) (fun cd A out s H E hg hr => ⟨_, _, (ss_cons (s_asg (dv 0) (kg_tup (K := K) (n := 2) rfl (gs_cons (g_name 1 sc_is_child.nd) (gs_cons (g_name 2 sc_is_child.nd) gs_nil))))
  (ss_one (s_ret (d_and (k_call (K := K) hg C_is_key hr rfl (a_cons (dv 1) a_nil)) (d_one (k_call (K := K) hg C_is_at_least hr rfl (a_cons (dv 2) (a_cons d_int a_nil)))))))), ?_⟩)
  rintro ds M R ⟨a, b, rfl, ok, q⟩
  refine ⟨rfl, ?_⟩
  refine ⟨a, rfl, ok.mem (by simp), ?_⟩
  have e : childV (.tup [a, b]) = (keyV a && atleastV 1 b) := rfl
  show (if keyV a = true then _ else _)
  exact iteB (fun h => ⟨b, _, rfl, ok.mem (by simp), q_of q (by rw [e, h, Bool.true_and])⟩) (fun h => q_of q (by rw [e, h, Bool.false_and]))
def F_is_page : DF := fun ds M Q => ∃ d, ds = [d] ∧ knownD M d = true ∧ sizeD d ≤ 100000 ∧ txtD d = true ∧ Q (.bl (plainD 0 d && pageV d)) M
theorem len_is_page : ∀ ds M R, F_is_page ds M R → ds.length = ["value"].length := by
  rintro _ _ _ ⟨d, rfl, _⟩
  rfl
abbrev s_is_page : Stmt := top 9
theorem sc_is_page : FnScope ["value", "entries", "key", "_", "children", "child"] ["value"] (defScope s_is_page) := ⟨rfl, rfl, rfl, by decide +kernel, rfl, by decide +kernel, by decide +kernel⟩
theorem ok_is_page {f : Addr} {fd : FuncData} (Fn : L2.Fun K "is_page" "is_page" s_is_page f fd) (T : Tx K mg) (C_is_plain : DCal P w K mg base "is_plain" 3 F_is_plain) (C_are_pairs : DCal P w K mg base "_are_pairs" 1 F_are_pairs) (C_is_key : DCal P w K mg base "_is_key" 2 F_is_key) (C_is_child : DCal P w K mg base "_is_child" 3 F_is_child) : Gk P w K mg base 4 f fd ["value"] (spD K F_is_page) := by
  refine dfun Fn sc_is_page (len_is_page) (fun cd A out s H E hg hr => ⟨_, _, (ss_cons (s_if (t_not (t_val (k_call (K := K) hg C_is_plain hr rfl (a_cons (dv 0) a_nil)))) (ss_one (s_ret d_bl)) ss_nil)
  (ss_one (s_match (dv 0) (cs_seq rfl (ps_lit hr.units (ps_name ps0)) (b_cons 1 sc_is_page.nd b_nil) (ss_one (s_ret (d_and (k_call (K := K) hg C_are_pairs hr rfl (a_cons (dv 1) (a_cons d_int a_nil))) (d_one (d_cb (k_all (K := K) rfl) (by rfl) T.all (by decide +kernel) (a_cons (d_lc (own := [("key", 2), ("_", 3)]) rfl sc_is_page.nd (k_tup_ (K := K) (dv 1)) (blkOk_by (N := ["value", "entries", "key", "_", "children", "child"]) (sc := defScope s_is_page) (by decide +kernel)) (fun _ _ _ _ _ => (kg_tup (K := K) (n := 2) rfl (gs_cons (g_name 2 sc_is_page.nd) (gs_cons (g_name 3 sc_is_page.nd) gs_nil)))) (fun _ _ _ _ _ => pts_nil) rt_yes (fun _ _ _ _ _ => (k_call (K := K) hg C_is_key hr rfl (a_cons (dv 2) a_nil)))) a_nil))))))
  (cs_seq rfl (ps_lit hr.units (ps_name ps0)) (b_cons 4 sc_is_page.nd b_nil) (ss_one (s_ret (d_and (k_call (K := K) hg C_are_pairs hr rfl (a_cons (dv 4) (a_cons d_int a_nil))) (d_one (d_cb (k_all (K := K) rfl) (by rfl) T.all (by decide +kernel) (a_cons (d_lc (own := [("child", 5)]) rfl sc_is_page.nd (k_tup_ (K := K) (dv 4)) (blkOk_by (N := ["value", "entries", "key", "_", "children", "child"]) (sc := defScope s_is_page) (by decide +kernel)) (fun _ _ _ _ _ => (g_name 5 sc_is_page.nd)) (fun _ _ _ _ _ => pts_nil) rt_yes (fun _ _ _ _ _ => (k_call (K := K) hg C_is_child hr rfl (a_cons (dv 5) a_nil)))) a_nil))))))
  (cs_any (ss_one (s_ret d_bl)))))))), ?_⟩)
  rintro ds M R ⟨d, rfl, kn, sd, tx, q⟩
  have sz : (sizeLine : Nat) = 16777216 := by decide +kernel
  refine ⟨d, rfl, kn, sd, ?_⟩
  show (if (!plainD 0 d) = true then _ else _)
  cases ep : plainD 0 d with
  | false => exact q_of q (by rw [ep, Bool.false_and])
  | true =>
    obtain ⟨p1, p2⟩ := plain_pln d 0 ep tx (by decide)
    have ok : OkF d := ⟨p1, by omega, sd⟩
    rw [ep] at q
    have q : R (.bl (pageV d)) M := q
    have a1 : ¬ ("node" : Str) = "leaf" := by decide +kernel
    refine case_word 1 ok (fun ds e hl => ?_) (fun m1 => case_word 1 ok (fun ds e hl => ?_) (fun m2 => ?_))
    · obtain ⟨a, rfl⟩ := len1 hl
      subst e
      have oa : OkF a := ok.mem (by simp)
      have ev : pageV (.tup [.str "leaf", a]) = (pairsV 0 a && allV entryV a) := by simp [pageV]
      refine ⟨a, 0, rfl, oa, ?_⟩
      show (if pairsV 0 a = true then _ else _)
      refine iteB (fun h => ?_) (fun h => q_of q (by rw [ev, h, Bool.false_and]))
      cases a with
      | tup xs =>
        have hall : ∀ x ∈ xs, twoV x = true := by
          simp only [pairsV, Bool.and_eq_true, List.all_eq_true] at h
          exact h.2
        show dLc _ _ dYes _ _ _ _ _
        refine dLc_map xs (fun d => Dv.bl (entryV d)) tru (fun R h => h) (by have := oa.len; omega) trivial (fun x hx R hR => ?_) ?_
        · obtain ⟨k, v, rfl⟩ := two_of (hall x hx)
          exact ⟨rfl, k, rfl, (oa.mem hx).mem (by simp), hR⟩
        · refine ⟨xs.map entryV, by rw [List.map_map]; rfl, q_of q ?_⟩
          rw [ev, h, Bool.true_and]
          show xs.all entryV = (xs.map entryV).all id
          rw [List.all_map]
          rfl
      | _ => cases h
    · obtain ⟨a, rfl⟩ := len1 hl
      subst e
      have oa : OkF a := ok.mem (by simp)
      have ev : pageV (.tup [.str "node", a]) = (pairsV 1 a && allV childV a) := by simp [pageV, a1]
      refine ⟨a, 1, rfl, oa, ?_⟩
      show (if pairsV 1 a = true then _ else _)
      refine iteB (fun h => ?_) (fun h => q_of q (by rw [ev, h, Bool.false_and]))
      cases a with
      | tup xs =>
        have hall : ∀ x ∈ xs, twoV x = true := by
          simp only [pairsV, Bool.and_eq_true, List.all_eq_true] at h
          exact h.2
        show dLc _ _ dYes _ _ _ _ _
        refine dLc_map xs (fun d => Dv.bl (childV d)) tru (fun R h => h) (by have := oa.len; omega) trivial (fun x hx R hR => ?_) ?_
        · obtain ⟨k, v, rfl⟩ := two_of (hall x hx)
          exact ⟨k, v, rfl, oa.mem hx, hR⟩
        · refine ⟨xs.map childV, by rw [List.map_map]; rfl, q_of q ?_⟩
          rw [ev, h, Bool.true_and]
          show xs.all childV = (xs.map childV).all id
          rw [List.all_map]
          rfl
      | _ => cases h
    · refine q_of q ?_
      unfold pageV
      split
      · rename_i t e _
        rw [if_neg (fun z => m1 [e] rfl (by rw [z])), if_neg (fun z => m2 [e] rfl (by rw [z]))]
      · rfl
end
end Vk
set_option linter.unusedVariables false
set_option linter.unusedSimpArgs false
namespace Vk
open PySem PySem.Spec PyProof.Rows L2
/-! ### the draws -/
/-- the loop of a draw: i quotients -/
def cutBy : Nat → Int → Int
  | 0, c => c
  | n + 1, c => cutBy n c / 100003
def drawOf (ns : List Int) (k : Int) : Int :=
  if ns = [] then k * 5 % 7
  else
    let c := ns.getD (k % (ns.length : Int)).toNat 0
    if c ≥ 1000000000000000000 then cutBy (if (60 : Int) < k / (ns.length : Int) then (60 : Int) else k / (ns.length : Int)).toNat c % 100003
    else (c * 48271 + k * 69621 + 13) % 2147483647 * 16807 % 2147483629
theorem drawOf_nn (ns : List Int) (k : Int) : 0 ≤ drawOf ns k := by
  unfold drawOf
  split
  · omega
  · dsimp only
    split <;> omega
theorem drawOf_lt (ns : List Int) (k : Int) : drawOf ns k < 2147483629 := by
  unfold drawOf
  split
  · omega
  · dsimp only
    split <;> omega
def spDraw (K : PySem.W.Frag) : Sp := fun vs H Q _ => ∃ (a : Addr) (ns : List Int) (k : Int), vs = [.ref a, .int k] ∧ SqL K H a (ns.map V.int) ∧ ns.length ≤ 63 ∧ 0 ≤ k ∧ k ≤ 1000000 ∧ Q (.int (drawOf ns k)) H
abbrev sDraw : Stmt := top 14
structure TDraw (mg : Str → Option Value) : Prop where
  len : mg "len" = none
  int : mg "int" = none
  min : mg "min" = none
  range : mg "range" = none
section
variable {P : Program} {w : World} {K : PySem.W.Frag} {mg : Str → Option Value} {base : Heap}
theorem scDraw : FnScope ["script", "k", "cell", "turn", "step"] ["script", "k"] (defScope sDraw) := ⟨rfl, rfl, rfl, by decide +kernel, rfl, by decide +kernel, by decide +kernel⟩
theorem ok_draw {f : Addr} {fd : FuncData} (F : Fun K "_law_draw" "_law_draw" sDraw f fd) (T : TDraw mg) : FnOk P w K mg base CX0 1 f fd ["script", "k"] (spDraw K) := by
  refine F.ok scDraw (fun vs H Q E h => ?_) (fun cdv A outer s H vs Q E hr h => ?_)
  · obtain ⟨a, ns, k, rfl, _⟩ := h
    rfl
  · obtain ⟨a, ns, k, rfl, hS, hl, hk0, hk, q⟩ := h
    refine ⟨_, pss_cons (ps_if (pt_not (pt_truth (pv 0) (by intro _; rfl))) (pss_one (ps_ret (pe_op op_mod (pe_op op_mul (pv 1) pe_int) pe_int))) pss_nil)
      (pss_cons (ps_set (i := 2) scDraw.nd rfl (Or.inl rfl) (pe_callTy call_int1 (by rfl) T.int (by decide +kernel) (pa_cons (pe_ix ix_list (pv 0) (pe_op op_mod (pv 1) (pe_callB call_len_seq (by rfl) T.len PySem.boot_len (pa_cons (pv 0) pa_nil))) (fun _ _ => rfl)) pa_nil)))
      (pss_cons (ps_set (i := 3) scDraw.nd rfl (Or.inl rfl) (pe_op op_fdiv (pv 1) (pe_callB call_len_seq (by rfl) T.len PySem.boot_len (pa_cons (pv 0) pa_nil))))
      (pss_cons (ps_if (pt_cmpR op_ge (pv 2) pe_int (nomark _))
        (pss_cons (ps_for PassesOwn.never rfl (pi_range1 rfl T.range (pa_cons (pe_callB (call_min2 rfl) (by rfl) T.min (by decide +kernel) (pa_cons (pv 3) (pa_cons pe_int pa_nil))) pa_nil)) (pg_name (i := 4) scDraw.nd rfl (Or.inl rfl))
          (pss_one (ps_set (i := 2) scDraw.nd rfl (Or.inl rfl) (pe_op op_fdiv (pv 2) pe_int))))
        (pss_one (ps_ret (pe_op op_mod (pv 2) pe_int)))) pss_nil)
      (pss_one (ps_ret (pe_op op_mod (pe_op op_mul (pe_op op_mod (pe_op op_add (pe_op op_add (pe_op op_mul (pv 2) pe_int) (pe_op op_mul (pv 1) pe_int)) pe_int) pe_int) pe_int) pe_int)))))), ?_⟩
    refine ⟨_, rfl, _, .inl ⟨_, hS, rfl⟩, ?_⟩
    cases ns with
    | nil =>
      refine iteT ?_
      refine ⟨_, rfl, _, _, rfl, rfl, .inr ⟨by decide, by decide⟩, _, _, rfl, rfl, (by show (0 : Int) < 7; decide), ?_⟩
      have e : drawOf [] k = k * 5 % 7 := by unfold drawOf; rw [if_pos rfl]
      rw [e] at q
      exact q
    | cons n0 nr =>
      refine iteF ?_
      have hlen : ((List.map V.int (n0 :: nr)).length : Int) = (((n0 :: nr).length : Nat) : Int) := by rw [List.length_map]
      have hpos : (0 : Int) < (((n0 :: nr).length : Nat) : Int) := by simp only [List.length_cons]; omega
      have hl2 : (((n0 :: nr).length : Nat) : Int) ≤ 63 := by omega
      have hm0 : 0 ≤ k % (((n0 :: nr).length : Nat) : Int) := Int.emod_nonneg _ (by omega)
      have hm1 : k % (((n0 :: nr).length : Nat) : Int) < (((n0 :: nr).length : Nat) : Int) := Int.emod_lt_of_pos _ hpos
      generalize hns : (n0 :: nr) = ns at hS hl hlen hpos hl2 hm0 hm1 q ⊢
      have hne : ns ≠ [] := by rw [← hns]; exact List.cons_ne_nil _ _
      have hat : atI (ns.map V.int) (k % ((ns.map V.int).length : Int)) = some (.int (ns.getD (k % (ns.length : Int)).toNat 0)) := by
        rw [hlen]
        have e1 : (k % (ns.length : Int)) = (((k % (ns.length : Int)).toNat : Nat) : Int) := by omega
        rw [e1]
        refine atI_nat ?_
        have h2 : (k % (ns.length : Int)).toNat < ns.length := by omega
        rw [Int.toNat_natCast, List.getElem?_map, List.getD_eq_getElem?_getD, List.getElem?_eq_getElem h2]
        rfl
      refine ⟨_, rfl, _, rfl, _, rfl, _, _, rfl, .inl hS, _, _, rfl, rfl, (by rw [hlen]; exact hpos), _, _, _, _, rfl, rfl, hS, hat, .inl ⟨_, rfl, ?_⟩⟩
      refine ⟨_, rfl, _, rfl, _, _, rfl, .inl hS, _, _, rfl, rfl, (by rw [hlen]; exact ⟨hpos, by omega⟩), ?_⟩
      rw [hlen]
      refine ⟨_, rfl, _, _, rfl, rfl, _, rfl, ?_⟩
      have hturn0 : 0 ≤ k / (ns.length : Int) := Int.ediv_nonneg hk0 (by omega)
      have hturn1 : k / (ns.length : Int) ≤ k := Int.ediv_le_self _ hk0
      unfold drawOf at q
      rw [if_neg hne] at q
      dsimp only at q
      by_cases hb : (1000000000000000000 : Int) ≤ ns.getD (k % (ns.length : Int)).toNat 0
      · rw [if_pos hb] at q
        rw [decide_eq_true hb]
        refine iteT ?_
        have b1 : -(2 ^ 62) ≤ (if (60 : Int) < k / (ns.length : Int) then (60 : Int) else k / (ns.length : Int)) := by split <;> omega
        have b2 : (if (60 : Int) < k / (ns.length : Int) then (60 : Int) else k / (ns.length : Int)) < 2 ^ 62 := by split <;> omega
        refine ⟨_, rfl, _, _, rfl, _, rfl, b1, b2, ?_⟩
        refine for_range (fun i σ H' => H' = H ∧ ∃ v, σ = [some (.ref a), some (.int k), some (.int (cutBy i (ns.getD (k % (ns.length : Int)).toNat 0))), some (.int (k / (ns.length : Int))), v]) ⟨rfl, none, rfl⟩ ?_ ?_
        · rintro i σ H' hi ⟨rfl, v, rfl⟩
          exact ⟨_, rfl, _, _, rfl, rfl, ⟨by decide, by decide⟩, rfl, _, rfl⟩
        · rintro σ H' ⟨rfl, v, rfl⟩
          exact ⟨_, rfl, _, _, rfl, rfl, (by show (0 : Int) < 100003; decide), q⟩
      · rw [if_neg hb] at q
        rw [decide_eq_false hb]
        refine iteF ?_
        exact ⟨_, rfl, _, _, rfl, rfl, .inr ⟨by decide, by decide⟩, _, rfl, _, _, rfl, rfl, .inr ⟨by decide, by decide⟩, _, _, rfl, rfl, _, _, rfl, rfl, _, _, rfl, rfl, (by show (0 : Int) < 2147483647; decide), _, _, rfl, rfl, .inr ⟨by decide, by decide⟩, _, _, rfl, rfl, (by show (0 : Int) < 2147483629; decide), q⟩

end
section
variable {X : Cx} {pos : Pos}
/-- {} -/
def dDic0 : DE := fun env M Q => ∀ p, M p = none → Q (.ref p) (mup M p (.dK []))
theorem d_dic0 : Ex X (.Dict [] [] pos) tDNewK dDic0 := by
  refine ⟨pe_dnewK, ?_⟩
  intro S σ H env M Q R rn hr f q
  intro p hp
  obtain ⟨g2, hr2⟩ := hr.newM hp (.dK .nil)
  exact q _ _ _ _ (f p (hr.fresh hp).2) g2 (.ref p) hr2
end
theorem Gk.weak {P : Program} {w : World} {K : PySem.W.Frag} {mg : Str → Option Value} {base : Heap} {k : Nat} {f : Addr} {fd : FuncData} {ps : List Str} {sp sp' : Sp} (h : ∀ vs H Q E, sp' vs H Q E → sp vs H Q E) (g : Gk P w K mg base k f fd ps sp) : Gk P w K mg base k f fd ps sp' :=
  ⟨fun vs H Q E z => g.len vs H Q E (h _ _ _ _ z), fun hg r e b v z => g.go hg r e b v (h _ _ _ _ z)⟩
def F_draw : DF := fun ds M Q => ∃ ns k, ds = [.scr ns, .int k] ∧ ns.length ≤ 63 ∧ 0 ≤ k ∧ k ≤ 1000000 ∧ Q (.int (drawOf ns k)) M
section
variable {P : Program} {w : World} {K : PySem.W.Frag} {mg : Str → Option Value} {base : Heap}
theorem ok_drawD {f : Addr} {fd : FuncData} (F : Fun K "_law_draw" "_law_draw" sDraw f fd) (T : TDraw mg) : Gk P w K mg base 1 f fd ["script", "k"] (spD K F_draw) := by
  refine Gk.weak (fun vs H Q E h => ?_) (Gk.of (ok_draw F T))
  obtain ⟨S, ds, M, R, rs, hr, ⟨ns, k, rfl, hl, k0, k1, f⟩, q⟩ := h
  obtain ⟨v, w, rfl, rd, rd2⟩ := rs.two
  cases rd2
  cases rd with
  | scr ha => exact ⟨_, ns, k, rfl, sqL_hid ha, hl, k0, k1, q _ M _ H f Gr.refl (.int _) hr⟩
end
theorem range_at {lo : Int} {n i : Nat} {d : Dv} (h : (intsD lo n)[i]? = some d) : d = .int (lo + (i : Nat)) ∧ i < n := by
  unfold intsD at h
  rw [List.getElem?_map] at h
  by_cases c : i < n
  · rw [List.getElem?_range c] at h
    cases h
    exact ⟨rfl, c⟩
  · rw [List.getElem?_eq_none (by simpa using c)] at h
    cases h
theorem intsD_len (lo : Int) (n : Nat) : (intsD lo n).length = n := by unfold intsD; rw [List.length_map, List.length_range]
/-- data that a law hands in, at a state -/
structure FineM (M : MH) (n : Nat) (d : Dv) : Prop where
  k : knownD M d = true
  t : txtD d = true
  s : sizeD d ≤ n
theorem FineM.mono {M : MH} {n m : Nat} {d : Dv} (h : FineM M n d) (l : n ≤ m) : FineM M m d := ⟨h.k, h.t, Nat.le_trans h.s l⟩
theorem FineM.up {M M' : MH} {n : Nat} {d : Dv} (h : FineM M n d) (l : MLe M M') : FineM M' n d := ⟨known_up l h.k, h.t, h.s⟩
theorem txtDs_all : ∀ ds : List Dv, txtDs ds = ds.all txtD
  | [] => rfl
  | d :: ds => by rw [txtDs, txtDs_all ds, List.all_cons]
theorem sum_le {n : Nat} : ∀ {ds : List Dv}, (∀ d ∈ ds, sizeD d ≤ n) → (ds.map sizeD).sum ≤ ds.length * n
  | [], _ => by simp
  | d :: ds, h => by
    have a := h d List.mem_cons_self
    have b := sum_le (n := n) (ds := ds) fun x hx => h x (List.mem_cons_of_mem _ hx)
    rw [List.map_cons, List.sum_cons, List.length_cons, Nat.succ_mul]
    omega
theorem FineM.tup {M : MH} {n m : Nat} {ds : List Dv} (h : ∀ d ∈ ds, FineM M n d) (l : 1 + ds.length * n ≤ m) : FineM M m (.tup ds) := by
  refine ⟨?_, ?_, ?_⟩
  · rw [knownD_tup, List.all_eq_true]
    exact fun d hd => (h d hd).k
  · rw [txtD, txtDs_all, List.all_eq_true]
    exact fun d hd => (h d hd).t
  · rw [sizeD_tup]
    have := sum_le (n := n) (ds := ds) fun d hd => (h d hd).s
    omega
theorem FineM.int {M : MH} (i : Int) : FineM M 1 (.int i) := ⟨rfl, rfl, Nat.le_refl _⟩
theorem FineM.non {M : MH} : FineM M 1 .non := ⟨rfl, rfl, Nat.le_refl _⟩
theorem FineM.bl {M : MH} (b : Bool) : FineM M 1 (.bl b) := ⟨rfl, rfl, Nat.le_refl _⟩
theorem FineM.lst {M : MH} (ds : List Dv) : FineM M 1 (.lst ds) := ⟨rfl, rfl, Nat.le_refl _⟩
theorem FineM.str {M : MH} {s : Str} (h : txtD (.str s) = true) : FineM M 1 (.str s) := ⟨rfl, h, Nat.le_refl _⟩
/-- tuples within one another -/
def deepD : Nat → Dv
  | 0 => .int 0
  | n + 1 => .tup [deepD n, .int (n : Nat)]
theorem deep_fine {M : MH} : ∀ n, FineM M (1 + 2 * n) (deepD n)
  | 0 => .int 0
  | n + 1 => by
    have h := deep_fine (M := M) n
    refine ⟨?_, ?_, ?_⟩
    · show knownD M (.tup [_, _]) = true
      rw [knownD_tup]
      simp [h.k, knownD]
    · show txtD (.tup [_, _]) = true
      simp [txtD, txtDs, h.t]
    · show sizeD (.tup [_, _]) ≤ _
      rw [sizeD_tup]
      have := h.s
      simp [sizeD]
      omega
theorem deep_plain : ∀ n m, n < 1000 → plainD m (deepD n) = decide (n = 0 ∨ m + n ≤ 30)
  | 0, m, _ => by
    show atomD (.int 0) = _
    simp [atomD]
  | n + 1, m, l => by
    show plainD m (.tup [_, _]) = _
    rw [plainD_tup]
    simp only [List.all_cons, List.all_nil, Bool.and_true]
    rw [deep_plain n (m + 1) (by omega)]
    have e : plainD (m + 1) (.int (n : Nat)) = true := by
      have a : ∀ i : Int, plainD (m + 1) (.int i) = (decide (-(10 ^ 60) < i) && decide (i < 10 ^ 60)) := fun i => by simp only [plainD, atomD]
      rw [a, decide_eq_true (show (-(10 ^ 60) : Int) < (n : Nat) by omega), decide_eq_true (show ((n : Nat) : Int) < 10 ^ 60 by omega)]
      rfl
    rw [e, Bool.and_true, ← Bool.decide_and]
    exact decide_eq_decide.mpr (by omega)
section
variable {P : Program} {w : World} {K : PySem.W.Frag} {mg : Str → Option Value} {base : Heap}
/-- keys as a page may have them -/
structure GoodK (k : Dv) : Prop where
  f : ∀ M, FineM M 10 k
  p : plainD 3 k = true
  g : keyV k = true
def F_lkey : DF := fun ds M Q => ∃ n : Int, ds = [.int n] ∧ 0 ≤ n ∧ n < 2 ^ 40 ∧ ∀ k, GoodK k → Q k M
theorem len_lkey : ∀ ds M R, F_lkey ds M R → ds.length = ["number"].length := by
  rintro _ _ _ ⟨d, rfl, _⟩
  rfl
abbrev s_lkey : Stmt := top 15
theorem sc_lkey : FnScope ["number", "keys"] ["number"] (defScope s_lkey) := ⟨rfl, rfl, rfl, by decide +kernel, rfl, by decide +kernel, by decide +kernel⟩
theorem ok_lkey {f : Addr} {fd : FuncData} (Fn : L2.Fun K "_law_key" "_law_key" s_lkey f fd) (T : Tx K mg) : Gk P w K mg base 1 f fd ["number"] (spD K F_lkey) := by
  refine dfun Fn sc_lkey (len_lkey) (fun cd A out s H E hg hr => ⟨_, _, (ss_cons (s_set (i := 1) sc_lkey.nd rfl (Or.inl rfl) (d_lst (a_cons (d_tup a_nil) (a_cons (d_tup (a_cons d_int a_nil)) (a_cons (d_tup (a_cons d_int (a_cons d_str (a_cons d_int a_nil)))) (a_cons (d_tup (a_cons d_str a_nil)) (a_cons (d_tup (a_cons (d_op o_pow d_int d_int) (a_cons (d_op o_minus d_int (d_op o_pow d_int d_int)) a_nil))) (a_cons (d_tup (a_cons d_int (a_cons d_str (a_cons (d_op o_minus d_int (dv 0)) a_nil)))) (a_cons (d_tup (a_cons (dv 0) a_nil)) (a_cons (d_tup (a_cons d_str (a_cons d_str (a_cons d_str (a_cons d_int a_nil))))) a_nil))))))))))
  (ss_one (s_ret (k_ix (K := K) (dv 1) (d_op o_mod (dv 0) d_int))))), ?_⟩)
  rintro ds M R ⟨n, rfl, n0, n1, q⟩
  have sz : (sizeLine : Nat) = 16777216 := by decide +kernel
  refine ⟨⟨by decide, by decide, by decide⟩, ⟨by decide, by decide, by decide⟩, by show (0 : Int) < 8; decide, ?_⟩
  have sm : ∀ i : Int, -(10 ^ 60) < i → i < 10 ^ 60 → plainD 4 (.int i) = true := fun i h1 h2 => by show (decide _ && decide _) = true; rw [decide_eq_true h1, decide_eq_true h2]; rfl
  obtain ⟨v, e, m⟩ := atI_some (xs := [Dv.tup [], .tup [.int 0], .tup [.int 1, .str "a", .int 5], .tup [.str "x"], .tup [.int (10 ^ (59 : Int).toNat), .int (0 - 10 ^ (59 : Int).toNat)], .tup [.int 3, .str "", .int (0 - n)], .tup [.int n], .tup [.str "~", .str "a", .str "b", .int 4]]) (i := n % 8) (by omega) (by show n % 8 < 8; omega)
  show (match atI [Dv.tup [], .tup [.int 0], .tup [.int 1, .str "a", .int 5], .tup [.str "x"], .tup [.int (10 ^ (59 : Int).toNat), .int (0 - 10 ^ (59 : Int).toNat)], .tup [.int 3, .str "", .int (0 - n)], .tup [.int n], .tup [.str "~", .str "a", .str "b", .int 4]] (n % 8) with | some d => R d M | none => False)
  rw [e]
  refine q v ?_
  have pt : ∀ ds : List Dv, (∀ d ∈ ds, plainD 4 d = true) → plainD 3 (.tup ds) = true := fun ds h => by rw [plainD_tup, Bool.and_eq_true, List.all_eq_true]; exact ⟨by decide, h⟩
  have p59 : ((10 : Int) ^ (59 : Int).toNat) = 10 ^ 59 := rfl
  have fin : ∀ ds : List Dv, ds.length ≤ 4 → (∀ d ∈ ds, plainD 4 d = true ∧ partV d = true ∧ ∀ M, FineM M 1 d) → GoodK (.tup ds) := fun ds l h =>
    ⟨fun M => FineM.tup (n := 1) (fun d hd => (h d hd).2.2 M) (by omega), pt ds fun d hd => (h d hd).1, by show ds.all partV = true; rw [List.all_eq_true]; exact fun d hd => (h d hd).2.1⟩
  have ii : ∀ i : Int, -(10 ^ 60) < i → i < 10 ^ 60 → plainD 4 (.int i) = true ∧ partV (.int i) = true ∧ ∀ M, FineM M 1 (.int i) := fun i h1 h2 => ⟨sm i h1 h2, rfl, fun M => .int i⟩
  have st : ∀ s : Str, txtD (.str s) = true → plainD 4 (.str s) = true ∧ partV (.str s) = true ∧ ∀ M, FineM M 1 (.str s) := fun s h => ⟨rfl, rfl, fun M => .str h⟩
  simp only [List.mem_cons, List.not_mem_nil, or_false] at m
  rcases m with rfl | rfl | rfl | rfl | rfl | rfl | rfl | rfl
  all_goals
    refine fin _ (by simp) fun d hd => ?_
    simp only [List.mem_cons, List.not_mem_nil, or_false] at hd
  · rcases hd with rfl
    exact ii _ (by decide) (by decide)
  · rcases hd with rfl | rfl | rfl
    · exact ii _ (by decide) (by decide)
    · exact st _ (by decide +kernel)
    · exact ii _ (by decide) (by decide)
  · rcases hd with rfl
    exact st _ (by decide +kernel)
  · rcases hd with rfl | rfl
    · exact ii _ (by decide) (by decide)
    · exact ii _ (by decide) (by decide)
  · rcases hd with rfl | rfl | rfl
    · exact ii _ (by decide) (by decide)
    · exact st _ (by decide +kernel)
    · exact ii _ (by omega) (by omega)
  · rcases hd with rfl
    exact ii _ (by omega) (by omega)
  · rcases hd with rfl | rfl | rfl | rfl
    · exact st _ (by decide +kernel)
    · exact st _ (by decide +kernel)
    · exact st _ (by decide +kernel)
    · exact ii _ (by decide) (by decide)
def F_deep : DF := fun ds M Q => ∃ n : Int, ds = [.int n] ∧ 0 ≤ n ∧ n ≤ 28 ∧ Q (deepD n.toNat) M
theorem len_deep : ∀ ds M R, F_deep ds M R → ds.length = ["count"].length := by
  rintro _ _ _ ⟨d, rfl, _⟩
  rfl
abbrev s_deep : Stmt := top 16
theorem sc_deep : FnScope ["count", "value", "k"] ["count"] (defScope s_deep) := ⟨rfl, rfl, rfl, by decide +kernel, rfl, by decide +kernel, by decide +kernel⟩
theorem ok_deep {f : Addr} {fd : FuncData} (Fn : L2.Fun K "_law_deep" "_law_deep" s_deep f fd) (T : Tx K mg) : Gk P w K mg base 1 f fd ["count"] (spD K F_deep) := by
  refine dfun Fn sc_deep (len_deep) (fun cd A out s H E hg hr => ⟨_, _, (ss_cons (s_set (i := 1) sc_deep.nd rfl (Or.inl rfl) d_int)
  (ss_cons (s_for PassesOwn.never rfl (w_range1 rfl T.range (a_cons (dv 0) a_nil)) (g_name 2 sc_deep.nd)
  (ss_one (s_set (i := 1) sc_deep.nd rfl (Or.inl rfl) (d_tup (a_cons (dv 1) (a_cons (dv 2) a_nil))))))
  (ss_one (s_ret (dv 1))))), ?_⟩)
  rintro ds M R ⟨n, rfl, n0, n1, q⟩
  have sz : (sizeLine : Nat) = 16777216 := by decide +kernel
  show dFor _ _ _ _ _ _
  unfold dFor
  refine ⟨by show -(2 ^ 62) ≤ n; omega, by show n < 2 ^ 62; omega, ?_⟩
  refine ⟨fun i env M' => ∃ (x3 : Option Dv), env = [some (.int n), some (deepD i), x3] ∧ M' = M, ⟨none, rfl, rfl⟩, fun _ _ _ _ => trivial, ?_, ?_⟩
  · rintro i d env M' hd ⟨x3, rfl, rfl⟩
    obtain ⟨rfl, hi⟩ := range_at hd
    refine ⟨some (.int (0 + (i : Int))), ?_, rfl⟩
    show [some (Dv.int n), some (.tup [deepD i, .int (0 + (i : Int))]), some (.int (0 + (i : Int)))] = _
    rw [Int.zero_add]
    rfl
  · rintro env M' ⟨x3, rfl, rfl⟩
    rw [intsD_len]
    exact q
end
end Vk
set_option linter.unusedVariables false
set_option linter.unusedSimpArgs false
namespace Vk
open PySem PySem.Spec PyProof.Rows L2
structure GoodV (w : Bool) (v : Dv) : Prop where
  f : ∀ M, FineM M 100 v
  p : plainD 3 v = true
  g : w = true → atleastV 1 v = true
/-- a list of a key and a value -/
def GoodE (w : Bool) (d : Dv) : Prop := ∃ k v, d = .lst [k, v] ∧ GoodK k ∧ GoodV w v
/-- what the law turns a key to -/
structure OddK (d : Dv) : Prop where
  f : ∀ M, FineM M 10 d
  no : (plainD 3 d && keyV d) = false
structure OddV (M : MH) (w : Bool) (d : Dv) : Prop where
  f : FineM M 100 d
  no : plainD 3 d = false ∨ (w = true ∧ atleastV 1 d = false)
section
variable {P : Program} {w : World} {K : PySem.W.Frag} {mg : Str → Option Value} {base : Heap}
def F_lparts : DF := fun ds M Q => ∃ ns b, ∃ c : Int, ds = [.scr ns, .bl b, .int c] ∧ ns.length ≤ 63 ∧ 0 ≤ c ∧ c ≤ 6 ∧ ∀ p xs, M p = none → xs.length = c.toNat → (∀ d ∈ xs, GoodE b d) → Q (.ref p) (mup M p (.lst xs))
theorem len_lparts : ∀ ds M R, F_lparts ds M R → ds.length = ["script", "is_node", "count"].length := by
  rintro _ _ _ ⟨ns, b, c, rfl, _⟩
  rfl
/-- the end of a turn of the parts' loop -/
abbrev partTail : DS := dDrop (dMeth1 (dV 3) (dACons (dLst (dACons (dCall F_lkey (dACons (dCall F_draw (dACons (dV 0) (dACons (dOp gAdd (dC (.int 5)) (dOp gMul (dC (.int 2)) (dV 4))) dANil))) dANil)) (dACons (dV 6) dANil))) dANil) gApp)
theorem partTail_ok {E : DEnds} {ns : List Int} {b : Bool} {c : Int} {p : Addr} {i : Nat} {x5 : Option Dv} {v : Dv} {M : MH} {xs : List Dv} (hl : ns.length ≤ 63) (hi : i ≤ 6) (hxl : xs.length = i) (gv : GoodV b v)
    (q : ∀ d, GoodE b d → E.nx [some (.scr ns), some (.bl b), some (.int c), some (.ref p), some (.int (0 + (i : Int))), x5, some v] (mup M p (.lst (xs ++ [d])))) :
    partTail E [some (.scr ns), some (.bl b), some (.int c), some (.ref p), some (.int (0 + (i : Int))), x5, some v] (mup M p (.lst xs)) := by
  have sz : (sizeLine : Nat) = 16777216 := by decide +kernel
  show dMeth1 (dV 3) _ gApp _ _ _
  refine meth_go rfl mup_same ?_
  refine ⟨.inl ⟨by decide, by decide⟩, ns, _, rfl, hl, by omega, by omega, ?_⟩
  refine ⟨_, rfl, drawOf_nn _ _, by have := drawOf_lt ns (5 + 2 * (0 + (i : Int))); omega, fun k gk => ?_⟩
  show (match (mup M p (.lst xs)) p with | some (.lst ys) => _ | _ => False)
  rw [mup_same]
  refine ⟨by omega, ?_⟩
  rw [mup_mup]
  exact q _ ⟨k, v, rfl, gk, gv⟩
abbrev s_lparts : Stmt := top 17
theorem sc_lparts : FnScope ["script", "is_node", "count", "parts", "k", "number", "value"] ["script", "is_node", "count"] (defScope s_lparts) := ⟨rfl, rfl, rfl, by decide +kernel, rfl, by decide +kernel, by decide +kernel⟩
theorem ok_lparts {f : Addr} {fd : FuncData} (Fn : L2.Fun K "_law_parts" "_law_parts" s_lparts f fd) (T : Tx K mg) (C_draw : DCal P w K mg base "_law_draw" 1 F_draw) (C_key : DCal P w K mg base "_law_key" 1 F_lkey) (C_deep : DCal P w K mg base "_law_deep" 1 F_deep) : Gk P w K mg base 2 f fd ["script", "is_node", "count"] (spD K F_lparts) := by
  refine dfun Fn sc_lparts (len_lparts) (fun cd A out s H E hg hr => ⟨_, _, (ss_cons (s_set (i := 3) sc_lparts.nd rfl (Or.inl rfl) (d_lstM a_nil))
  (ss_cons (s_for PassesOwn.never rfl (w_range1 rfl T.range (a_cons (dv 2) a_nil)) (g_name 4 sc_lparts.nd)
  (ss_cons (s_set (i := 5) sc_lparts.nd rfl (Or.inl rfl) (k_call (K := K) hg C_draw hr rfl (a_cons (dv 0) (a_cons (d_op (k_add (K := K)) d_int (d_op (k_mul (K := K)) d_int (dv 4))) a_nil))))
  (ss_cons (s_set (i := 6) sc_lparts.nd rfl (Or.inl rfl) (d_op (k_add (K := K)) d_int (d_op o_mod (dv 5) d_int)))
  (ss_cons (s_if (t_not (k_truth (K := K) (dv 1))) (ss_one (s_set (i := 6) sc_lparts.nd rfl (Or.inl rfl) (k_ix (K := K) (d_lst (a_cons d_non (a_cons d_bl (a_cons d_str (a_cons (d_tup (a_cons (dv 5) (a_cons d_non a_nil))) (a_cons (k_call (K := K) hg C_deep hr rfl (a_cons (d_op o_mod (d_op o_fdiv (dv 5) d_int) d_int) a_nil)) (a_cons (d_op o_minus d_int (dv 5)) a_nil))))))) (d_op o_mod (dv 5) d_int)))) ss_nil)
  (ss_one (s_expr (d_bm PySem.F.plainAttrs_list PySem.F.slot_list_append PySem.F.type_list_append mt_append mt_app (dv 3) (a_cons (d_lst (a_cons (k_call (K := K) hg C_key hr rfl (a_cons (k_call (K := K) hg C_draw hr rfl (a_cons (dv 0) (a_cons (d_op (k_add (K := K)) d_int (d_op (k_mul (K := K)) d_int (dv 4))) a_nil))) a_nil)) (a_cons (dv 6) a_nil))) a_nil))))))))
  (ss_one (s_ret (dv 3))))), ?_⟩)
  rintro ds M R ⟨ns, b, c, rfl, hl, c0, c6, q⟩
  have sz : (sizeLine : Nat) = 16777216 := by decide +kernel
  have dr : ∀ k : Int, 0 ≤ drawOf ns k ∧ drawOf ns k < 2 ^ 39 := fun k => ⟨drawOf_nn ns k, by have := drawOf_lt ns k; omega⟩
  intro p hp
  show dSeq (dFor _ _ _) _ _ _ _
  show dFor _ _ _ _ _ _
  unfold dFor
  refine ⟨by show -(2 ^ 62) ≤ c; omega, by show c < 2 ^ 62; omega, ?_⟩
  refine ⟨fun i env M' => ∃ (x4 x5 x6 : Option Dv) (xs : List Dv), env = [some (.scr ns), some (.bl b), some (.int c), some (.ref p), x4, x5, x6] ∧ M' = mup M p (.lst xs) ∧ xs.length = i ∧ (∀ d ∈ xs, GoodE b d), ⟨none, none, none, [], rfl, rfl, rfl, by simp⟩, fun _ _ _ _ => trivial, ?_, ?_⟩
  · rintro i d env M' hd ⟨x4, x5, x6, xs, rfl, rfl, hxl, hx⟩
    obtain ⟨rfl, hi⟩ := range_at hd
    generalize hn : drawOf ns (4 + 2 * (0 + (i : Int))) = n
    have n0 : 0 ≤ n := by rw [← hn]; exact (dr _).1
    have n1 : n < 2 ^ 39 := by rw [← hn]; exact (dr _).2
    refine ⟨.inl ⟨by decide, by decide⟩, ns, _, rfl, hl, by omega, by omega, ?_⟩
    rw [hn]
    refine ⟨by show (0 : Int) < 99999; decide, ?_⟩
    show (if (!b) = true then _ else _)
    have fin : ∀ x4' x5' x6' d, GoodE b d → ∃ x4 x5 x6 ys, [some (Dv.scr ns), some (.bl b), some (.int c), some (.ref p), x4', x5', x6'] = [some (Dv.scr ns), some (.bl b), some (.int c), some (.ref p), x4, x5, x6] ∧ mup M p (.lst (xs ++ [d])) = mup M p (.lst ys) ∧ ys.length = i + 1 ∧ ∀ d ∈ ys, GoodE b d := fun x4' x5' x6' d hd =>
      ⟨_, _, _, xs ++ [d], rfl, rfl, by rw [List.length_append, hxl]; rfl, fun y hy => by
        rcases List.mem_append.mp hy with h | h
        · exact hx y h
        · rw [List.mem_singleton.mp h]; exact hd⟩
    refine iteB (fun hb => ?_) (fun hb => ?_)
    · have hb : b = false := by cases b <;> first | rfl | cases hb
      subst hb
      refine ⟨⟨by decide, by decide⟩, by show (0 : Int) < 28; decide, _, rfl, by omega, by omega, by show (0 : Int) < 6; decide, ?_⟩
      obtain ⟨v, e, m⟩ := atI_some (xs := [Dv.non, .bl true, .str "", .tup [.int n, .non], deepD (n / 9 % 28).toNat, .int (0 - n)]) (i := n % 6) (by omega) (by show n % 6 < 6; omega)
      show (match atI [Dv.non, .bl true, .str "", .tup [.int n, .non], deepD (n / 9 % 28).toNat, .int (0 - n)] (n % 6) with | some d => _ | none => False)
      rw [e]
      refine partTail_ok (x5 := some (.int n)) hl (by omega) hxl ?_ fun d hd => fin _ _ _ d hd
      have sm : ∀ (m : Nat) (i : Int), -(10 ^ 60) < i → i < 10 ^ 60 → plainD m (.int i) = true := fun m i h1 h2 => by simp only [plainD, atomD]; rw [decide_eq_true h1, decide_eq_true h2]; rfl
      have gz : ∀ {X : Prop}, (false = true → X) := fun z => by cases z
      simp only [List.mem_cons, List.not_mem_nil, or_false] at m
      rcases m with rfl | rfl | rfl | rfl | rfl | rfl
      · exact ⟨fun M => FineM.non.mono (by decide), rfl, gz⟩
      · exact ⟨fun M => (FineM.bl _).mono (by decide), rfl, gz⟩
      · exact ⟨fun M => (FineM.str (by decide +kernel)).mono (by decide), rfl, gz⟩
      · refine ⟨fun M => FineM.tup (n := 1) (fun d hd => ?_) (by simp), ?_, gz⟩
        · simp only [List.mem_cons, List.not_mem_nil, or_false] at hd
          rcases hd with rfl | rfl
          · exact .int _
          · exact .non
        · rw [plainD_tup]
          simp only [List.all_cons, List.all_nil, sm 4 n (by omega) (by omega)]
          rfl
      · refine ⟨fun M => (deep_fine _).mono (by omega), ?_, gz⟩
        rw [deep_plain _ _ (by omega)]
        exact decide_eq_true (by omega)
      · exact ⟨fun M => (FineM.int _).mono (by decide), sm _ _ (by omega) (by omega), gz⟩
    · have hb : b = true := by cases b <;> first | rfl | cases hb
      subst hb
      refine partTail_ok (x5 := some (.int n)) hl (by omega) hxl ?_ fun d hd => fin _ _ _ d hd
      have sm : ∀ (m : Nat) (i : Int), -(10 ^ 60) < i → i < 10 ^ 60 → plainD m (.int i) = true := fun m i h1 h2 => by simp only [plainD, atomD]; rw [decide_eq_true h1, decide_eq_true h2]; rfl
      exact ⟨fun M => (FineM.int _).mono (by decide), sm _ _ (by omega) (by omega), fun _ => decide_eq_true (by omega)⟩
  · rintro env M' ⟨x4, x5, x6, xs, rfl, rfl, hxl, hx⟩
    rw [intsD_len] at hxl
    exact q p xs hp hxl hx
def F_odd_key : DF := fun ds M Q => ∃ n : Int, ds = [.int n] ∧ 0 ≤ n ∧ n < 2 ^ 40 ∧ ∀ k, OddK k → Q k M
theorem len_odd_key : ∀ ds M R, F_odd_key ds M R → ds.length = ["number"].length := by
  rintro _ _ _ ⟨d, rfl, _⟩
  rfl
abbrev s_odd_key : Stmt := top 18
theorem sc_odd_key : FnScope ["number", "odds"] ["number"] (defScope s_odd_key) := ⟨rfl, rfl, rfl, by decide +kernel, rfl, by decide +kernel, by decide +kernel⟩
theorem ok_odd_key {f : Addr} {fd : FuncData} (Fn : L2.Fun K "_law_odd_key" "_law_odd_key" s_odd_key f fd) (T : Tx K mg) : Gk P w K mg base 1 f fd ["number"] (spD K F_odd_key) := by
  refine dfun Fn sc_odd_key (len_odd_key) (fun cd A out s H E hg hr => ⟨_, _, (ss_cons (s_set (i := 1) sc_odd_key.nd rfl (Or.inl rfl) (d_lst (a_cons (d_tup (a_cons d_int (a_cons d_non a_nil))) (a_cons (d_tup (a_cons d_bl a_nil)) (a_cons (d_lst (a_cons d_int a_nil)) (a_cons d_str (a_cons (d_tup (a_cons d_int (a_cons (d_tup (a_cons d_str a_nil)) a_nil))) (a_cons d_int (a_cons d_non (a_cons (d_tup (a_cons d_int (a_cons d_str (a_cons d_bl a_nil)))) (a_cons (d_tup (a_cons d_int (a_cons (d_op o_pow d_int d_int) a_nil))) (a_cons (d_tup (a_cons (d_op o_minus d_int (d_op o_pow d_int d_int)) a_nil)) a_nil))))))))))))
  (ss_one (s_ret (k_ix (K := K) (dv 1) (d_op o_mod (dv 0) d_int))))), ?_⟩)
  rintro ds M R ⟨n, rfl, n0, n1, q⟩
  have sz : (sizeLine : Nat) = 16777216 := by decide +kernel
  refine ⟨⟨by decide, by decide, by decide⟩, ⟨by decide, by decide, by decide⟩, by show (0 : Int) < 10; decide, ?_⟩
  obtain ⟨v, e, m⟩ := atI_some (xs := [Dv.tup [.int 0, .non], .tup [.bl true], .lst [.int 0], .str "ab", .tup [.int 1, .tup [.str "a"]], .int 5, .non, .tup [.int 1, .str "a", .bl false], .tup [.int 1, .int (10 ^ (60 : Int).toNat)], .tup [.int (0 - 10 ^ (60 : Int).toNat)]]) (i := n % 10) (by omega) (by show n % 10 < 10; omega)
  show (match atI [Dv.tup [.int 0, .non], .tup [.bl true], .lst [.int 0], .str "ab", .tup [.int 1, .tup [.str "a"]], .int 5, .non, .tup [.int 1, .str "a", .bl false], .tup [.int 1, .int (10 ^ (60 : Int).toNat)], .tup [.int (0 - 10 ^ (60 : Int).toNat)]] (n % 10) with | some d => R d M | none => False)
  rw [e]
  refine q v ?_
  simp only [List.mem_cons, List.not_mem_nil, or_false] at m
  rcases m with rfl | rfl | rfl | rfl | rfl | rfl | rfl | rfl | rfl | rfl
  all_goals exact ⟨fun M => ⟨rfl, by decide +kernel, by decide +kernel⟩, by decide +kernel⟩
def F_odd_value : DF := fun ds M Q => ∃ n : Int, ∃ b, ds = [.int n, .bl b] ∧ 0 ≤ n ∧ n < 2 ^ 40 ∧ ∀ d M', MLe M M' → OddV M' b d → Q d M'
theorem len_odd_value : ∀ ds M R, F_odd_value ds M R → ds.length = ["number", "is_node"].length := by
  rintro _ _ _ ⟨d, b, rfl, _⟩
  rfl
abbrev s_odd_value : Stmt := top 19
theorem sc_odd_value : FnScope ["number", "is_node"] ["number", "is_node"] (defScope s_odd_value) := ⟨rfl, rfl, rfl, by decide +kernel, rfl, by decide +kernel, by decide +kernel⟩
theorem ok_odd_value {f : Addr} {fd : FuncData} (Fn : L2.Fun K "_law_odd_value" "_law_odd_value" s_odd_value f fd) (T : Tx K mg) (C_deep : DCal P w K mg base "_law_deep" 1 F_deep) : Gk P w K mg base 2 f fd ["number", "is_node"] (spD K F_odd_value) := by
  refine dfun Fn sc_odd_value (len_odd_value) (fun cd A out s H E hg hr => ⟨_, _, (ss_cons (s_if (k_truth (K := K) (dv 1)) (ss_one (s_ret (k_ix (K := K) (d_lst (a_cons d_int (a_cons (d_op o_minus (d_op o_minus d_int d_int) (dv 0)) (a_cons d_bl (a_cons d_str (a_cons d_non (a_cons (d_tup (a_cons d_int a_nil)) (a_cons (d_op o_pow d_int d_int) a_nil)))))))) (d_op o_mod (dv 0) d_int)))) ss_nil)
  (ss_one (s_ret (k_ix (K := K) (d_lst (a_cons (d_lstM a_nil) (a_cons (k_call (K := K) hg C_deep hr rfl (a_cons d_int a_nil)) (a_cons (d_op o_pow d_int d_int) (a_cons (d_tup (a_cons d_int (a_cons (d_lst (a_cons d_int a_nil)) a_nil))) (a_cons d_dic0 a_nil)))))) (d_op o_mod (dv 0) d_int))))), ?_⟩)
  rintro ds M R ⟨n, b, rfl, n0, n1, q⟩
  have sz : (sizeLine : Nat) = 16777216 := by decide +kernel
  have no60 : ∀ m, plainD m (.int (10 ^ (60 : Int).toNat)) = false := fun m => by simp only [plainD, atomD]; decide
  show (if b = true then _ else _)
  refine iteB (fun hb => ?_) (fun hb => ?_)
  · subst hb
    refine ⟨⟨by decide, by decide, by decide⟩, by show (0 : Int) < 7; decide, ?_⟩
    obtain ⟨v, e, m⟩ := atI_some (xs := [Dv.int 0, .int (0 - 1 - n), .bl true, .str "1", .non, .tup [.int 1], .int (10 ^ (60 : Int).toNat)]) (i := n % 7) (by omega) (by show n % 7 < 7; omega)
    show (match atI [Dv.int 0, .int (0 - 1 - n), .bl true, .str "1", .non, .tup [.int 1], .int (10 ^ (60 : Int).toNat)] (n % 7) with | some d => R d M | none => False)
    rw [e]
    refine q v M MLe.refl ?_
    simp only [List.mem_cons, List.not_mem_nil, or_false] at m
    rcases m with rfl | rfl | rfl | rfl | rfl | rfl | rfl
    · exact ⟨(FineM.int _).mono (by decide), .inr ⟨rfl, rfl⟩⟩
    · exact ⟨(FineM.int _).mono (by decide), .inr ⟨rfl, decide_eq_false (by omega)⟩⟩
    · exact ⟨(FineM.bl _).mono (by decide), .inr ⟨rfl, rfl⟩⟩
    · exact ⟨(FineM.str (by decide +kernel)).mono (by decide), .inr ⟨rfl, rfl⟩⟩
    · exact ⟨FineM.non.mono (by decide), .inr ⟨rfl, rfl⟩⟩
    · exact ⟨⟨rfl, by decide +kernel, by decide +kernel⟩, .inr ⟨rfl, rfl⟩⟩
    · exact ⟨(FineM.int _).mono (by decide), .inl (no60 _)⟩
  · subst hb
    intro p1 hp1
    refine ⟨_, rfl, by decide, by decide, ⟨by decide, by decide, by decide⟩, fun p2 hp2 => ⟨by show (0 : Int) < 5; decide, ?_⟩⟩
    obtain ⟨v, e, m⟩ := atI_some (xs := [Dv.ref p1, deepD (28 : Int).toNat, .int (10 ^ (60 : Int).toNat), .tup [.int 1, .lst [.int 2]], .ref p2]) (i := n % 5) (by omega) (by show n % 5 < 5; omega)
    show (match atI [Dv.ref p1, deepD (28 : Int).toNat, .int (10 ^ (60 : Int).toNat), .tup [.int 1, .lst [.int 2]], .ref p2] (n % 5) with | some d => R d _ | none => False)
    rw [e]
    have u1 : MLe M (mup M p1 (.lst [])) := MLe.up hp1
    have u2 : MLe (mup M p1 (.lst [])) (mup (mup M p1 (.lst [])) p2 (.dK [])) := MLe.up hp2
    refine q v _ (fun a o h => u2 a o (u1 a o h)) ?_
    have m1 : (mup (mup M p1 (.lst [])) p2 (.dK [])) p1 = some (.lst []) := u2 _ _ mup_same
    have m2 : (mup (mup M p1 (.lst [])) p2 (.dK [])) p2 = some (.dK []) := mup_same
    simp only [List.mem_cons, List.not_mem_nil, or_false] at m
    rcases m with rfl | rfl | rfl | rfl | rfl
    · exact ⟨⟨by simp only [knownD, m1], rfl, by show 1 ≤ 100; decide⟩, .inl rfl⟩
    · refine ⟨(deep_fine _).mono (by decide), .inl ?_⟩
      rw [deep_plain _ _ (by decide)]
      rfl
    · exact ⟨(FineM.int _).mono (by decide), .inl (no60 _)⟩
    · exact ⟨⟨rfl, by decide +kernel, by decide +kernel⟩, .inl (by decide +kernel)⟩
    · exact ⟨⟨by simp only [knownD, m2], rfl, by show 1 ≤ 100; decide⟩, .inl rfl⟩
def F_is : DF := fun ds M Q => ∃ a b, ds = [.bl a, .bl b] ∧ Q (.bl (decide (a = b))) M
theorem len_is : ∀ ds M R, F_is ds M R → ds.length = ["answer", "due"].length := by
  rintro _ _ _ ⟨a, b, rfl, _⟩
  rfl
abbrev s_is : Stmt := top 21
theorem sc_is : FnScope ["answer", "due"] ["answer", "due"] (defScope s_is) := ⟨rfl, rfl, rfl, by decide +kernel, rfl, by decide +kernel, by decide +kernel⟩
theorem ok_is {f : Addr} {fd : FuncData} (Fn : L2.Fun K "_law_is" "_law_is" s_is f fd) (T : Tx K mg) : Gk P w K mg base 1 f fd ["answer", "due"] (spD K F_is) := by
  refine dfun Fn sc_is (len_is) (fun cd A out s H E hg hr => ⟨_, _, (ss_one (s_ret (d_and (d_cb (k_isi (K := K)) (by rfl) T.isinstance (by decide +kernel) (a_cons (dv 0) (a_cons (d_tyname (n := "bool") (by rfl) T.bool (by decide +kernel)) a_nil))) (d_one (d_cmp (k_eq (K := K) hr.units) (dv 0) (dv 1) (nomark _)))))), ?_⟩)
  rintro ds M R ⟨a, b, rfl, q⟩
  exact ⟨by decide, q⟩
end
end Vk
set_option linter.unusedVariables false
set_option linter.unusedSimpArgs false
namespace Vk
open PySem PySem.Spec PyProof.Rows L2
/-- a list that is changed later, from items by a function -/
theorem dLcM_map {W : DI} {g : DG} {A : DE} {vs : List Nat} {env : DEnv} {M : MH} {Q : DK} (items : List Dv) (f : Dv → Dv) (inv : MH → Prop) (hW : ∀ R : List Dv → (MH → Prop) → MH → Prop, R items inv M → W env M R) (hz : items.length ≤ sizeLine) (hin : inv M)
    (step : ∀ d, d ∈ items → ∀ R : DK, R (f d) M → g d (wipeD env vs) M fun env1 M2 => A env1 M2 R) (q : ∀ p, M p = none → Q (.ref p) (mup M p (.lst (items.map f)))) : dLcM W g dYes A vs env M Q := by
  unfold dLcM
  refine hW _ ⟨hz, fun i acc M' => acc = (items.take i).map f ∧ M' = M, ⟨by simp, rfl⟩, fun i acc M' h => by rw [h.2]; exact hin, ?_, ?_⟩
  · rintro i d acc M' hd ⟨rfl, rfl⟩
    have hmem : d ∈ items := List.mem_of_getElem? hd
    exact step d hmem (fun y M4 => (items.take i).map f ++ [y] = (items.take (i + 1)).map f ∧ M4 = M') ⟨by rw [take_next hd, List.map_append]; rfl, rfl⟩
  · rintro acc M' ⟨rfl, rfl⟩
    rw [List.take_length]
    exact q
def wd (b : Bool) : Str := if b then "node" else "leaf"
def elV (b : Bool) : Dv → Bool := if b then childV else entryV
theorem wd_node (b : Bool) : decide (wd b = "node") = b := by cases b <;> decide +kernel
theorem wd_leaf (b : Bool) : decide (wd b = "leaf") = !b := by cases b <;> decide +kernel
theorem wd_txt (b : Bool) : txtD (.str (wd b)) = true := by cases b <;> decide +kernel
theorem page_wd (b : Bool) (ys : List Dv) : pageV (.tup [.str (wd b), .tup ys]) = ((decide ((if b then 1 else 0) ≤ ys.length) && decide (ys.length ≤ 6) && ys.all twoV) && ys.all (elV b)) := by
  cases b with
  | true =>
    have a1 : ¬ ("node" : Str) = "leaf" := by decide +kernel
    show (if ("node" : Str) = "leaf" then (pairsV 0 (.tup ys) && allV entryV (.tup ys)) else if ("node" : Str) = "node" then (pairsV 1 (.tup ys) && allV childV (.tup ys)) else false) = _
    rw [if_neg a1, if_pos rfl]
    rfl
  | false =>
    show (if ("leaf" : Str) = "leaf" then (pairsV 0 (.tup ys) && allV entryV (.tup ys)) else if ("leaf" : Str) = "node" then (pairsV 1 (.tup ys) && allV childV (.tup ys)) else false) = _
    rw [if_pos rfl]
    rfl
theorem plain_wd (b : Bool) (ys : List Dv) : plainD 0 (.tup [.str (wd b), .tup ys]) = ys.all (plainD 2) := by
  rw [plainD_tup]
  simp only [List.all_cons, List.all_nil, Bool.and_true, plainD_tup]
  simp [plainD, atomD]
/-- a right pair -/
def GoodP (b : Bool) (y : Dv) : Prop := ∃ k v, y = .tup [k, v] ∧ GoodK k ∧ GoodV b v
theorem pair_plain (k v : Dv) : plainD 2 (.tup [k, v]) = (plainD 3 k && plainD 3 v) := by
  rw [plainD_tup]
  simp
theorem el_pair (b : Bool) (k v : Dv) : elV b (.tup [k, v]) = (keyV k && (!b || atleastV 1 v)) := by
  cases b with
  | true => rfl
  | false => show keyV k = (keyV k && true); rw [Bool.and_true]
theorem GoodP.ok {b : Bool} {y : Dv} (h : GoodP b y) : plainD 2 y = true ∧ twoV y = true ∧ elV b y = true := by
  obtain ⟨k, v, rfl, gk, gv⟩ := h
  refine ⟨by rw [pair_plain, gk.p, gv.p]; rfl, rfl, ?_⟩
  rw [el_pair, gk.g]
  cases b with
  | true => rw [gv.g rfl]; rfl
  | false => rfl
theorem page_good {b : Bool} {ys : List Dv} (h : ∀ y ∈ ys, GoodP b y) (l : ys.length ≤ 6) : (plainD 0 (.tup [.str (wd b), .tup ys]) && pageV (.tup [.str (wd b), .tup ys])) = (!b || decide (0 < ys.length)) := by
  have e1 : ys.all (plainD 2) = true := List.all_eq_true.mpr fun y hy => (h y hy).ok.1
  have e2 : ys.all twoV = true := List.all_eq_true.mpr fun y hy => (h y hy).ok.2.1
  have e3 : ys.all (elV b) = true := List.all_eq_true.mpr fun y hy => (h y hy).ok.2.2
  rw [plain_wd, page_wd, e1, e2, e3, decide_eq_true l]
  cases b <;> simp <;> omega
theorem page_bad {b : Bool} {ys : List Dv} {y : Dv} (hy : y ∈ ys) (h : (plainD 2 y && elV b y) = false) : (plainD 0 (.tup [.str (wd b), .tup ys]) && pageV (.tup [.str (wd b), .tup ys])) = false := by
  rw [plain_wd, page_wd]
  have : (ys.all (plainD 2) && ys.all (elV b)) = false := by
    cases e : (ys.all (plainD 2) && ys.all (elV b)) with
    | false => rfl
    | true =>
      rw [Bool.and_eq_true, List.all_eq_true, List.all_eq_true] at e
      rw [e.1 y hy, e.2 y hy] at h
      cases h
  cases e1 : ys.all (plainD 2) with
  | false => rfl
  | true =>
    rw [e1, Bool.true_and] at this
    rw [this, Bool.and_false, Bool.and_false]
theorem page_long {b : Bool} {ys : List Dv} (h : 6 < ys.length) : (plainD 0 (.tup [.str (wd b), .tup ys]) && pageV (.tup [.str (wd b), .tup ys])) = false := by
  rw [page_wd, decide_eq_false (show ¬ ys.length ≤ 6 by omega), Bool.and_false, Bool.false_and, Bool.false_and, Bool.and_false]
theorem page_fine {M : MH} {b : Bool} {ys : List Dv} (h : ∀ y ∈ ys, FineM M 400 y) (l : ys.length ≤ 7) : FineM M 100000 (.tup [.str (wd b), .tup ys]) := by
  refine FineM.tup (n := 3000) (fun d hd => ?_) (by simp)
  simp only [List.mem_cons, List.not_mem_nil, or_false] at hd
  rcases hd with rfl | rfl
  · exact (FineM.str (wd_txt b)).mono (by decide)
  · exact FineM.tup h (by omega)
theorem GoodP.fine {b : Bool} {y : Dv} (h : GoodP b y) (M : MH) : FineM M 400 y := by
  obtain ⟨k, v, rfl, gk, gv⟩ := h
  refine FineM.tup (n := 100) (fun d hd => ?_) (by simp)
  simp only [List.mem_cons, List.not_mem_nil, or_false] at hd
  rcases hd with rfl | rfl
  · exact (gk.f M).mono (by decide)
  · exact gv.f M
def toT : Dv → Dv
  | .lst ds => .tup ds
  | d => d
theorem good_toT {b : Bool} {d : Dv} (h : GoodE b d) : GoodP b (toT d) := by
  obtain ⟨k, v, rfl, gk, gv⟩ := h
  exact ⟨k, v, rfl, gk, gv⟩
mutual
theorem known_put {M : MH} {r : Addr} {a c : List Dv} (h : M r = some (.lst a)) : ∀ {d : Dv}, knownD M d = true → knownD (mup M r (.lst c)) d = true
  | .scr _, k => by simp [knownD] at k
  | .ty _, k => by simp [knownD] at k
  | .ref p, k => by
    simp only [knownD] at k ⊢
    by_cases e : p = r
    · subst e
      rw [mup_same]
    · rw [mup_ne e]
      exact k
  | .tup ds, k => by
    simp only [knownD] at k ⊢
    exact knowns_put h k
  | .non, _ => rfl
  | .bl _, _ => rfl
  | .int _, _ => rfl
  | .str _, _ => rfl
  | .lst _, _ => rfl
theorem knowns_put {M : MH} {r : Addr} {a c : List Dv} (h : M r = some (.lst a)) : ∀ {ds : List Dv}, knownDs M ds = true → knownDs (mup M r (.lst c)) ds = true
  | [], _ => rfl
  | d :: ds, k => by
    simp only [knownDs, Bool.and_eq_true] at k ⊢
    exact ⟨known_put h k.1, knowns_put h k.2⟩
end
theorem addL_go {x y : Dv} {ds es : List Dv} {M : MH} {Q : DK} (h1 : lsD M x = some ds) (h2 : lsD M y = some es) (l : ds.length + es.length ≤ sizeLine) (q : Q (.lst (ds ++ es)) M) : gAddL x y M Q := by
  unfold gAddL
  rw [h1, h2]
  exact ⟨l, q⟩
theorem cut_to {ds : List Dv} (p : Nat) : cutD ds none (some (p : Int)) = ds.take p := by
  unfold cutD
  rw [HT.sIx_nat]
  show (ds.drop 0).take (min p ds.length - 0) = _
  rw [List.drop_zero, Nat.sub_zero, List.take_eq_take_iff]
  omega
theorem page_word {x : Dv} {ys : List Dv} (h1 : x ≠ .str "leaf") (h2 : x ≠ .str "node") : pageV (.tup [x, .tup ys]) = false := by
  unfold pageV
  split
  · rename_i t e z
    injection z with z
    injection z with z1 z2
    rw [if_neg (fun z => h1 (by rw [z1, z])), if_neg (fun z => h2 (by rw [z1, z]))]
  · rfl
section
variable {P : Program} {w : World} {K : PySem.W.Frag} {mg : Str → Option Value} {base : Heap}
def F_turned : DF := fun ds M Q => ∃ (b : Bool) (p : Addr) (f : Int) (pl : Nat) (n : Int) (xs : List Dv), ds = [.str (wd b), .ref p, .int f, .int (pl : Nat), .int n] ∧ M p = some (.lst xs) ∧ xs.length ≤ 6 ∧ (∀ d ∈ xs, GoodE b d) ∧ 0 ≤ f ∧ f ≤ 6 ∧ pl < xs.length ∧ 0 ≤ n ∧ n < 2 ^ 40 ∧
  ∀ d M', MLe M M' → FineM M' 100000 d → (plainD 0 d && pageV d) = decide (f = 0) → Q d M'
theorem len_turned : ∀ ds M R, F_turned ds M R → ds.length = ["word", "parts", "fault", "place", "number"].length := by
  rintro _ _ _ ⟨b, p, f, pl, n, xs, rfl, _⟩
  rfl
abbrev s_turned : Stmt := top 20
theorem sc_turned : FnScope ["word", "parts", "fault", "place", "number", "is_node", "shown", "part"] ["word", "parts", "fault", "place", "number"] (defScope s_turned) := ⟨rfl, rfl, rfl, by decide +kernel, rfl, by decide +kernel, by decide +kernel⟩
theorem ok_turned {f : Addr} {fd : FuncData} (Fn : L2.Fun K "_law_turned" "_law_turned" s_turned f fd) (T : Tx K mg) (C_odd_key : DCal P w K mg base "_law_odd_key" 1 F_odd_key) (C_odd_value : DCal P w K mg base "_law_odd_value" 2 F_odd_value) : Gk P w K mg base 3 f fd ["word", "parts", "fault", "place", "number"] (spD K F_turned) := by
  refine dfun Fn sc_turned (len_turned) (fun cd A out s H E hg hr => ⟨_, _, (ss_cons (s_set (i := 5) sc_turned.nd rfl (Or.inl rfl) (d_cmp (k_eq (K := K) hr.units) (dv 0) d_str (nomark _)))
  (ss_cons (s_setLcM (i := 6) (own := [("part", 7)]) rfl sc_turned.nd rfl rfl (sw_true rfl rfl rfl (by decide +kernel)) (k_list_ (K := K) (dv 1)) (blkOk_by (N := ["word", "parts", "fault", "place", "number", "is_node", "shown", "part"]) (sc := defScope s_turned) (by decide +kernel)) (fun _ _ _ _ _ => (g_name 7 sc_turned.nd)) (fun _ _ _ _ _ => pts_nil) rt_yes (fun _ _ _ _ _ => (d_cty (k_tuple (K := K)) (by rfl) T.tuple (by decide +kernel) (a_cons (dv 7) a_nil))))
  (ss_cons (s_if (t_cmp (k_eq (K := K) hr.units) (dv 2) d_int (nomark _)) (ss_one (s_put (d_tup (a_cons (k_call (K := K) hg C_odd_key hr rfl (a_cons (dv 4) a_nil)) (a_cons (k_ix (K := K) (k_ix (K := K) (dv 1) (dv 3)) d_int) a_nil))) (dv 6) (dv 3) (fun p1 p2 p3 => ps_asg p1 (pg_sub p2 p3 set_list)))) ss_nil)
  (ss_cons (s_if (t_cmp (k_eq (K := K) hr.units) (dv 2) d_int (nomark _)) (ss_one (s_put (d_tup (a_cons (k_ix (K := K) (k_ix (K := K) (dv 1) (dv 3)) d_int) (a_cons (k_call (K := K) hg C_odd_value hr rfl (a_cons (dv 4) (a_cons (dv 5) a_nil))) a_nil))) (dv 6) (dv 3) (fun p1 p2 p3 => ps_asg p1 (pg_sub p2 p3 set_list)))) ss_nil)
  (ss_cons (s_if (t_cmp (k_eq (K := K) hr.units) (dv 2) d_int (nomark _)) (ss_one (s_put (k_ix (K := K) (d_lst (a_cons (d_op (k_add (K := K)) (k_ix (K := K) (dv 6) (dv 3)) (d_tup (a_cons d_int a_nil))) (a_cons (k_slice (K := K) (k_ix (K := K) (dv 6) (dv 3)) p_none (p_some d_int)) (a_cons (d_cty (k_list (K := K)) (by rfl) T.list (by decide +kernel) (a_cons (k_ix (K := K) (dv 6) (dv 3)) a_nil)) (a_cons d_non a_nil))))) (d_op o_mod (dv 4) d_int)) (dv 6) (dv 3) (fun p1 p2 p3 => ps_asg p1 (pg_sub p2 p3 set_list)))) ss_nil)
  (ss_cons (s_if (t_cmp (k_eq (K := K) hr.units) (dv 2) d_int (nomark _)) (ss_one (s_set (i := 6) sc_turned.nd rfl (Or.inl rfl) (k_slice (K := K) (d_op o_addL (d_op o_addL (d_op o_addL (d_op o_addL (d_op o_addL (d_op o_addL (dv 6) (dv 6)) (dv 6)) (dv 6)) (dv 6)) (dv 6)) (dv 6)) p_none (p_some d_int)))) ss_nil)
  (ss_cons (s_if (t_cmp (k_eq (K := K) hr.units) (dv 2) d_int (nomark _)) (ss_one (s_ret (d_tup (a_cons (k_ix (K := K) (d_lst (a_cons (d_op (k_add (K := K)) (dv 0) d_str) (a_cons d_str (a_cons d_int (a_cons d_non (a_cons (d_tup (a_cons (dv 0) a_nil)) a_nil)))))) (d_op o_mod (dv 4) d_int)) (a_cons (d_cty (k_tuple (K := K)) (by rfl) T.tuple (by decide +kernel) (a_cons (dv 6) a_nil)) a_nil))))) ss_nil)
  (ss_cons (s_if (t_cmp (k_eq (K := K) hr.units) (dv 2) d_int (nomark _)) (ss_one (s_ret (k_ix (K := K) (d_lst (a_cons (d_tup (a_cons (dv 0) (a_cons (dv 6) a_nil))) (a_cons (d_lst (a_cons (dv 0) (a_cons (d_cty (k_tuple (K := K)) (by rfl) T.tuple (by decide +kernel) (a_cons (dv 6) a_nil)) a_nil))) (a_cons (d_tup (a_cons (dv 0) (a_cons (d_cty (k_tuple (K := K)) (by rfl) T.tuple (by decide +kernel) (a_cons (dv 6) a_nil)) (a_cons d_int a_nil)))) (a_cons (d_tup (a_cons (dv 0) a_nil)) (a_cons (d_tup (a_cons (d_cty (k_tuple (K := K)) (by rfl) T.tuple (by decide +kernel) (a_cons (dv 6) a_nil)) (a_cons (dv 0) a_nil))) a_nil)))))) (d_op o_mod (dv 4) d_int)))) ss_nil)
  (ss_one (s_ret (d_tup (a_cons (dv 0) (a_cons (d_cty (k_tuple (K := K)) (by rfl) T.tuple (by decide +kernel) (a_cons (dv 6) a_nil)) a_nil))))))))))))), ?_⟩)
  rintro ds M R ⟨b, p, f, pl, n, xs, rfl, hp, hxl, hx, f0, f6, hpl, n0, n1, q⟩
  have sz : (sizeLine : Nat) = 16777216 := by decide +kernel
  show dLcM _ _ dYes _ _ [some (.str (wd b)), some (.ref p), some (.int f), some (.int (pl : Nat)), some (.int n), some (.bl (decide (wd b = "node"))), none, none] M _
  rw [wd_node]
  refine dLcM_map xs toT (fun M2 => M2 p = some (.lst xs)) (fun R h => ?_) (by omega) hp (fun d hd R hR => ?_) (fun r hr0 => ?_)
  · show (match M p with | some (.lst ds) => _ | _ => False)
    rw [hp]
    exact h
  · obtain ⟨k, v, rfl, _⟩ := hx d hd
    exact hR
  have hy : ∀ y ∈ xs.map toT, GoodP b y := fun y hy => by
    obtain ⟨d, hd, rfl⟩ := List.mem_map.mp hy
    exact good_toT (hx d hd)
  obtain ⟨k, v, ex, gk, gv⟩ : ∃ k v, xs[pl]? = some (.lst [k, v]) ∧ GoodK k ∧ GoodV b v := by
    obtain ⟨k, v, e, gk, gv⟩ := hx _ (List.getElem_mem hpl)
    exact ⟨k, v, by rw [List.getElem?_eq_getElem hpl, e], gk, gv⟩
  have ey : (xs.map toT)[pl]? = some (.tup [k, v]) := by rw [List.getElem?_map, ex]; rfl
  have ax : atI xs ((pl : Nat) : Int) = some (.lst [k, v]) := atI_nat ex
  have ay : atI (xs.map toT) ((pl : Nat) : Int) = some (.tup [k, v]) := atI_nat ey
  have hyl : (xs.map toT).length = xs.length := List.length_map ..
  generalize hys : xs.map toT = ys at *
  have rp : p ≠ r := fun z => by subst z; rw [hr0] at hp; cases hp
  have mp : ∀ l, (mup M r (.lst l)) p = some (.lst xs) := fun l => by rw [mup_ne rp]; exact hp
  have ml : ∀ l, MLe M (mup M r (.lst l)) := fun l => MLe.up hr0
  have put : ∀ M' new, MLe M M' → FineM M' 400 new → (plainD 2 new && elV b new) = false → f ≠ 0 → R (.tup [.str (wd b), .tup (ys.set pl new)]) M' := fun M' new h1 h2 h3 h4 => by
    refine q _ M' h1 (page_fine (fun y hz => ?_) (by rw [List.length_set]; omega)) ?_
    · rcases List.mem_or_eq_of_mem_set hz with h | h
      · exact (hy y h).fine M'
      · rw [h]; exact h2
    · rw [decide_eq_false h4]
      exact page_bad (List.mem_set (by omega) _) h3
  have ij : ixN ys.length ((pl : Nat) : Int) = some pl := by
    unfold ixN
    rw [if_pos (by omega), if_pos (by omega)]
    simp
  have hf : f = 0 ∨ f = 1 ∨ f = 2 ∨ f = 3 ∨ f = 4 ∨ f = 5 ∨ f = 6 := by omega
  rcases hf with rfl | rfl | rfl | rfl | rfl | rfl | rfl
  · show (match (mup M r (.lst ys)) r with | some (.lst xs) => _ | _ => False)
    rw [mup_same]
    refine q _ _ (ml _) (page_fine (fun y hz => (hy y hz).fine _) (by omega)) ?_
    rw [page_good hy (by omega), decide_eq_true (show 0 < ys.length by omega), Bool.or_true]
    rfl
  · refine ⟨n, rfl, n0, n1, fun k' ok => ?_⟩
    show (match (mup M r (.lst ys)) p with | some (.lst ds) => _ | _ => False)
    rw [mp]
    show (match atI xs ((pl : Nat) : Int) with | some d => _ | none => False)
    rw [ax]
    show (match (mup M r (.lst ys)) r with | some (.lst ds) => _ | _ => False)
    rw [mup_same]
    show (match ixN ys.length ((pl : Nat) : Int) with | some j => _ | none => False)
    rw [ij]
    show (match (mup (mup M r (.lst ys)) r (.lst (ys.set pl (.tup [k', v])))) r with | some (.lst xs) => _ | _ => False)
    rw [mup_mup, mup_same]
    refine put _ _ (ml _) (FineM.tup (n := 100) (fun d hd => ?_) (by simp)) ?_ (by decide)
    · simp only [List.mem_cons, List.not_mem_nil, or_false] at hd
      rcases hd with rfl | rfl
      · exact (ok.f _).mono (by decide)
      · exact gv.f _
    · rw [pair_plain, el_pair, gv.p, Bool.and_true, ← Bool.and_assoc, ok.no, Bool.false_and]
  · show (match (mup M r (.lst ys)) p with | some (.lst ds) => _ | _ => False)
    rw [mp]
    show (match atI xs ((pl : Nat) : Int) with | some d => _ | none => False)
    rw [ax]
    refine ⟨n, b, rfl, n0, n1, fun d M' hl od => ?_⟩
    have hr1 : M' r = some (.lst ys) := hl _ _ mup_same
    show (match M' r with | some (.lst ds) => _ | _ => False)
    rw [hr1]
    show (match ixN ys.length ((pl : Nat) : Int) with | some j => _ | none => False)
    rw [ij]
    show (match (mup M' r (.lst (ys.set pl (.tup [k, d])))) r with | some (.lst xs) => _ | _ => False)
    rw [mup_same]
    refine put _ _ (fun a o h => ?_) (FineM.tup (n := 100) (fun d' hd => ?_) (by simp)) ?_ (by decide)
    · rw [mup_ne (fun z => by subst z; rw [hr0] at h; cases h)]
      exact hl _ _ (ml _ _ _ h)
    · simp only [List.mem_cons, List.not_mem_nil, or_false] at hd
      rcases hd with rfl | rfl
      · exact (gk.f _).mono (by decide)
      · exact ⟨known_put hr1 od.f.k, od.f.t, od.f.s⟩
    · rw [pair_plain, el_pair]
      rcases od.no with h | ⟨h1, h2⟩
      · rw [h, Bool.and_false, Bool.false_and]
      · rw [h1, h2]
        simp
  · have go : ∀ T : Dv → Prop, T (.tup [k, v]) → (match (mup M r (.lst ys)) r with | some (.lst ds) => (match atI ds ((pl : Nat) : Int) with | some d => T d | none => False) | _ => False) := fun T h => by
      rw [mup_same]
      show (match atI ys ((pl : Nat) : Int) with | some d => T d | none => False)
      rw [ay]
      exact h
    refine go _ ⟨?_, go _ (go _ ⟨by show (0 : Int) < 4; decide, ?_⟩)⟩
    · show 3 ≤ sizeLine
      omega
    obtain ⟨new, e, m⟩ := atI_some (xs := [Dv.tup ([k, v] ++ [.int 1]), .tup (cutD [k, v] none (some 1)), .lst [k, v], .non]) (i := n % 4) (by omega) (by show n % 4 < 4; omega)
    show (match atI [Dv.tup ([k, v] ++ [.int 1]), .tup (cutD [k, v] none (some 1)), .lst [k, v], .non] (n % 4) with | some d => _ | none => False)
    rw [e]
    show (match (mup M r (.lst ys)) r with | some (.lst ds) => _ | _ => False)
    rw [mup_same]
    show (match ixN ys.length ((pl : Nat) : Int) with | some j => _ | none => False)
    rw [ij]
    show (match (mup (mup M r (.lst ys)) r (.lst (ys.set pl new))) r with | some (.lst xs) => _ | _ => False)
    rw [mup_mup, mup_same]
    have fk : ∀ M', FineM M' 100 k := fun M' => (gk.f M').mono (by decide)
    have ev : ∀ d, twoV d = false → elV b d = false := fun d h => by
      unfold elV childV entryV
      cases b <;> (simp only [Bool.false_eq_true, if_false, if_true]; split <;> first | rfl | (cases h; done))
    simp only [List.mem_cons, List.not_mem_nil, or_false] at m
    rcases m with rfl | rfl | rfl | rfl
    · refine put _ _ (ml _) (FineM.tup (n := 100) (fun d hd => ?_) (by simp)) (by rw [ev _ rfl, Bool.and_false]) (by decide)
      simp only [List.cons_append, List.nil_append, List.mem_cons, List.not_mem_nil, or_false] at hd
      rcases hd with rfl | rfl | rfl
      · exact fk _
      · exact gv.f _
      · exact (FineM.int _).mono (by decide)
    · have e1 : cutD [k, v] none (some (1 : Int)) = [k] := cut_to 1
      rw [e1]
      refine put _ _ (ml _) (FineM.tup (n := 100) (fun d hd => ?_) (by simp)) (by rw [ev _ rfl, Bool.and_false]) (by decide)
      rw [List.mem_singleton.mp hd]
      exact fk _
    · exact put _ _ (ml _) ((FineM.lst _).mono (by decide)) rfl (by decide)
    · exact put _ _ (ml _) (FineM.non.mono (by decide)) (by rw [ev _ rfl, Bool.and_false]) (by decide)
  · have l1 : lsD (mup M r (.lst ys)) (.ref r) = some ys := by unfold lsD; simp only [mup_same]
    show gAddL (.ref r) (.ref r) _ _
    refine addL_go l1 l1 (by omega) ?_
    show gAddL (.lst _) (.ref r) _ _
    refine addL_go rfl l1 (by simp only [List.length_append]; omega) ?_
    show gAddL (.lst _) (.ref r) _ _
    refine addL_go rfl l1 (by simp only [List.length_append]; omega) ?_
    show gAddL (.lst _) (.ref r) _ _
    refine addL_go rfl l1 (by simp only [List.length_append]; omega) ?_
    show gAddL (.lst _) (.ref r) _ _
    refine addL_go rfl l1 (by simp only [List.length_append]; omega) ?_
    show gAddL (.lst _) (.ref r) _ _
    refine addL_go rfl l1 (by simp only [List.length_append]; omega) ?_
    show R (.tup [.str (wd b), .tup (cutD (ys ++ ys ++ ys ++ ys ++ ys ++ ys ++ ys) none (some ((7 : Nat) : Int)))]) _
    rw [cut_to]
    have l7 : ((ys ++ ys ++ ys ++ ys ++ ys ++ ys ++ ys).take 7).length = 7 := by
      rw [List.length_take]
      simp only [List.length_append]
      omega
    refine q _ _ (ml _) (page_fine (fun y hz => ?_) (by omega)) ?_
    · have := List.mem_of_mem_take hz
      simp only [List.mem_append, or_self] at this
      exact (hy y this).fine _
    · exact page_long (by omega)
  · refine ⟨by cases b <;> decide +kernel, by show (0 : Int) < 5; decide, ?_⟩
    obtain ⟨x, e, m⟩ := atI_some (xs := [Dv.str (wd b ++ "s"), .str "", .int 5, .non, .tup [.str (wd b)]]) (i := n % 5) (by omega) (by show n % 5 < 5; omega)
    show (match atI [Dv.str (wd b ++ "s"), .str "", .int 5, .non, .tup [.str (wd b)]] (n % 5) with | some d => _ | none => False)
    rw [e]
    show (match (mup M r (.lst ys)) r with | some (.lst xs) => _ | _ => False)
    rw [mup_same]
    have fx : FineM (mup M r (.lst ys)) 3000 x ∧ x ≠ .str "leaf" ∧ x ≠ .str "node" := by
      simp only [List.mem_cons, List.not_mem_nil, or_false] at m
      rcases m with rfl | rfl | rfl | rfl | rfl
      · cases b
        · exact ⟨(FineM.str (by decide +kernel)).mono (by decide), (fun z => by injection z with z; exact absurd z (by decide +kernel)), fun z => by injection z with z; exact absurd z (by decide +kernel)⟩
        · exact ⟨(FineM.str (by decide +kernel)).mono (by decide), (fun z => by injection z with z; exact absurd z (by decide +kernel)), fun z => by injection z with z; exact absurd z (by decide +kernel)⟩
      · exact ⟨(FineM.str (by decide +kernel)).mono (by decide), (fun z => by injection z with z; exact absurd z (by decide +kernel)), fun z => by injection z with z; exact absurd z (by decide +kernel)⟩
      · exact ⟨(FineM.int _).mono (by decide), (fun z => by cases z), fun z => by cases z⟩
      · exact ⟨FineM.non.mono (by decide), (fun z => by cases z), fun z => by cases z⟩
      · refine ⟨FineM.tup (n := 1) (fun d hd => ?_) (by simp), (fun z => by cases z), fun z => by cases z⟩
        rw [List.mem_singleton.mp hd]
        exact .str (wd_txt b)
    refine q _ _ (ml _) (FineM.tup (n := 3000) (fun d hd => ?_) (by simp)) ?_
    · simp only [List.mem_cons, List.not_mem_nil, or_false] at hd
      rcases hd with rfl | rfl
      · exact fx.1
      · exact FineM.tup (n := 400) (fun y hz => (hy y hz).fine _) (by omega)
    · rw [page_word fx.2.1 fx.2.2, Bool.and_false]
      rfl
  · have z6 : (0 : Int) ≤ 6 := by decide
    show (match (mup M r (.lst ys)) r with | some (.lst xs) => _ | _ => False)
    rw [mup_same]
    show (match (mup M r (.lst ys)) r with | some (.lst xs) => _ | _ => False)
    rw [mup_same]
    show (match (mup M r (.lst ys)) r with | some (.lst xs) => _ | _ => False)
    rw [mup_same]
    refine ⟨by show (0 : Int) < 5; decide, ?_⟩
    obtain ⟨x, e, m⟩ := atI_some (xs := [Dv.tup [.str (wd b), .ref r], .lst [.str (wd b), .tup ys], .tup [.str (wd b), .tup ys, .int 1], .tup [.str (wd b)], .tup [.tup ys, .str (wd b)]]) (i := n % 5) (by omega) (by show n % 5 < 5; omega)
    show (match atI [Dv.tup [.str (wd b), .ref r], .lst [.str (wd b), .tup ys], .tup [.str (wd b), .tup ys, .int 1], .tup [.str (wd b)], .tup [.tup ys, .str (wd b)]] (n % 5) with | some d => R d _ | none => False)
    rw [e]
    have fw : ∀ M', FineM M' 3000 (.str (wd b)) := fun M' => (FineM.str (wd_txt b)).mono (by decide)
    have fy : ∀ M', FineM M' 3000 (.tup ys) := fun M' => FineM.tup (n := 400) (fun y hz => (hy y hz).fine _) (by omega)
    simp only [List.mem_cons, List.not_mem_nil, or_false] at m
    rcases m with rfl | rfl | rfl | rfl | rfl
    · refine q _ _ (ml _) (FineM.tup (n := 3000) (fun d hd => ?_) (by simp)) ?_
      · simp only [List.mem_cons, List.not_mem_nil, or_false] at hd
        rcases hd with rfl | rfl
        · exact fw _
        · exact ⟨by simp only [knownD, mup_same], rfl, by show 1 ≤ 3000; decide⟩
      · rw [plainD_tup]
        simp [plainD, atomD]
    · exact q _ _ (ml _) ((FineM.lst _).mono (by decide)) rfl
    · refine q _ _ (ml _) (FineM.tup (n := 3000) (fun d hd => ?_) (by simp)) (by rw [show pageV (.tup [.str (wd b), .tup ys, .int 1]) = false from rfl, Bool.and_false]; rfl)
      simp only [List.mem_cons, List.not_mem_nil, or_false] at hd
      rcases hd with rfl | rfl | rfl
      · exact fw _
      · exact fy _
      · exact (FineM.int _).mono (by decide)
    · refine q _ _ (ml _) (FineM.tup (n := 3000) (fun d hd => ?_) (by simp)) (by rw [show pageV (.tup [.str (wd b)]) = false from rfl, Bool.and_false]; rfl)
      rw [List.mem_singleton.mp hd]
      exact fw _
    · refine q _ _ (ml _) (FineM.tup (n := 3000) (fun d hd => ?_) (by simp)) (by rw [show pageV (.tup [.tup ys, .str (wd b)]) = false from rfl, Bool.and_false]; rfl)
      simp only [List.mem_cons, List.not_mem_nil, or_false] at hd
      rcases hd with rfl | rfl
      · exact fy _
      · exact fw _
end
end Vk
set_option linter.unusedVariables false
set_option linter.unusedSimpArgs false
namespace Vk
open PySem PySem.Spec PyProof.Rows L2
theorem dOr_go {A B : DE} {env : DEnv} {M : MH} {Q : DK} {x y : Bool} (hA : ∀ R : DK, R (.bl x) M → A env M R) (hB : ∀ R : DK, R (.bl y) M → B env M R) (q : Q (.bl (x || y)) M) : dOr A B env M Q := by
  unfold dOr
  refine hA _ ?_
  cases x with
  | true => exact q
  | false => exact hB _ q
theorem ifS_key {I : DT} {T U : DS} {E : DEnds} {env : DEnv} {M : MH} (C : DEnv → MH → Prop) (h : ∀ nx : DEnv → MH → Prop, (∀ e m, C e m → nx e m) → dIfS I T U { E with nx := nx } env M) (key : ∀ e m, C e m → E.nx e m) : dIfS I T U E env M := h E.nx key
theorem MLe.trans {A B C : MH} (h : MLe A B) (k : MLe B C) : MLe A C := fun a o z => k a o (h a o z)
section
variable {P : Program} {w : World} {K : PySem.W.Frag} {mg : Str → Option Value} {base : Heap}
def F_law : DF := fun ds M Q => ∃ ns, ds = [.scr ns] ∧ ns.length ≤ 63 ∧ Q (.bl true) M
theorem len_law : ∀ ds M R, F_law ds M R → ds.length = ["script"].length := by
  rintro _ _ _ ⟨ns, rfl, _⟩
  rfl
abbrev s_law : Stmt := top 22
theorem sc_law : FnScope ["script", "word", "parts", "number", "good", "part", "place", "fault"] ["script"] (defScope s_law) := ⟨rfl, rfl, rfl, by decide +kernel, rfl, by decide +kernel, by decide +kernel⟩
theorem ok_law {f : Addr} {fd : FuncData} (Fn : L2.Fun K "law" "law" s_law f fd) (T : Tx K mg) (C_parts : DCal P w K mg base "_law_parts" 2 F_lparts) (C_draw : DCal P w K mg base "_law_draw" 1 F_draw) (C_is : DCal P w K mg base "_law_is" 1 F_is) (C_is_page : DCal P w K mg base "is_page" 4 F_is_page) (C_turned : DCal P w K mg base "_law_turned" 3 F_turned) : Gk P w K mg base 5 f fd ["script"] (spD K F_law) := by
  refine dfunG Fn sc_law (len_law) (fun cd A out s H E hg hr => ⟨_, _, (ss_cons (s_set (i := 1) sc_law.nd rfl (Or.inl rfl) (k_ix (K := K) (d_lst (a_cons d_str (a_cons d_str a_nil))) (d_op o_mod (k_call (K := K) hg C_draw hr rfl (a_cons (dv 0) (a_cons d_int a_nil))) d_int)))
  (ss_cons (s_set (i := 2) sc_law.nd rfl (Or.inl rfl) (k_call (K := K) hg C_parts hr rfl (a_cons (dv 0) (a_cons (d_cmp (k_eq (K := K) hr.units) (dv 1) d_str (nomark _)) (a_cons (d_op o_mod (k_call (K := K) hg C_draw hr rfl (a_cons (dv 0) (a_cons d_int a_nil))) d_int) a_nil)))))
  (ss_cons (s_set (i := 3) sc_law.nd rfl (Or.inl rfl) (k_call (K := K) hg C_draw hr rfl (a_cons (dv 0) (a_cons d_int a_nil))))
  (ss_cons (s_set (i := 4) sc_law.nd rfl (Or.inl rfl) (d_tup (a_cons (dv 1) (a_cons (d_cty (k_tuple (K := K)) (by rfl) T.tuple (by decide +kernel) (a_cons (d_lc (own := [("part", 5)]) rfl sc_law.nd (k_list_ (K := K) (dv 2)) (blkOk_by (N := ["script", "word", "parts", "number", "good", "part", "place", "fault"]) (sc := defScope s_law) (by decide +kernel)) (fun _ _ _ _ _ => (g_name 5 sc_law.nd)) (fun _ _ _ _ _ => pts_nil) rt_yes (fun _ _ _ _ _ => (d_cty (k_tuple (K := K)) (by rfl) T.tuple (by decide +kernel) (a_cons (dv 5) a_nil)))) a_nil)) a_nil))))
  (ss_cons (s_if (t_not (t_val (k_call (K := K) hg C_is hr rfl (a_cons (k_call (K := K) hg C_is_page hr rfl (a_cons (dv 4) a_nil)) (a_cons (d_or (d_cmp (k_eq (K := K) hr.units) (dv 1) d_str (nomark _)) (d_one (d_cmp o_gt (d_cb (k_len (K := K)) (by rfl) T.len (by decide +kernel) (a_cons (dv 2) a_nil)) d_int (nomark _)))) a_nil))))) (ss_one (s_ret d_bl)) ss_nil)
  (ss_cons (s_if (t_cmp (k_eq (K := K) hr.units) (d_cb (k_len (K := K)) (by rfl) T.len (by decide +kernel) (a_cons (dv 2) a_nil)) d_int (nomark _)) (ss_one (s_set (i := 2) sc_law.nd rfl (Or.inl rfl) (d_lstM (a_cons (d_lst (a_cons (d_tup (a_cons d_int (a_cons d_str a_nil))) (a_cons d_int a_nil))) a_nil)))) ss_nil)
  (ss_cons (s_set (i := 6) sc_law.nd rfl (Or.inl rfl) (d_op o_mod (d_op o_fdiv (dv 3) d_int) (d_cb (k_len (K := K)) (by rfl) T.len (by decide +kernel) (a_cons (dv 2) a_nil))))
  (ss_cons (s_for PassesOwn.never rfl (w_range2 rfl T.range (a_cons d_int (a_cons d_int a_nil))) (g_name 7 sc_law.nd)
  (ss_one (s_if (t_not (t_val (k_call (K := K) hg C_is hr rfl (a_cons (k_call (K := K) hg C_is_page hr rfl (a_cons (k_call (K := K) hg C_turned hr rfl (a_cons (dv 1) (a_cons (dv 2) (a_cons (dv 7) (a_cons (dv 6) (a_cons (dv 3) a_nil)))))) a_nil)) (a_cons d_bl a_nil))))) (ss_one (s_ret d_bl)) ss_nil)))
  (ss_cons (s_if (t_not (t_val (k_call (K := K) hg C_is hr rfl (a_cons (k_call (K := K) hg C_is_page hr rfl (a_cons (k_call (K := K) hg C_turned hr rfl (a_cons (dv 1) (a_cons (dv 2) (a_cons d_int (a_cons (dv 6) (a_cons (dv 3) a_nil)))))) a_nil)) (a_cons d_bl a_nil))))) (ss_one (s_ret d_bl)) ss_nil)
  (ss_one (s_ret (d_and (k_call (K := K) hg C_is hr rfl (a_cons (k_call (K := K) hg C_is_page hr rfl (a_cons (d_lst a_nil) a_nil)) (a_cons d_bl a_nil))) (d_and (k_call (K := K) hg C_is hr rfl (a_cons (k_call (K := K) hg C_is_page hr rfl (a_cons d_non a_nil)) (a_cons d_bl a_nil))) (d_one (k_call (K := K) hg C_is hr rfl (a_cons (k_call (K := K) hg C_is_page hr rfl (a_cons (dv 1) a_nil)) (a_cons d_bl a_nil))))))))))))))))), ?_⟩)
  rintro ds M R ⟨ns, rfl, hl, q⟩
  have sz : (sizeLine : Nat) = 16777216 := by decide +kernel
  have dr : ∀ k : Int, 0 ≤ drawOf ns k ∧ drawOf ns k < 2 ^ 39 := fun k => ⟨drawOf_nn ns k, by have := drawOf_lt ns k; omega⟩
  have d0 := dr 0
  have d1 := dr 1
  have d3 := dr 3
  refine ⟨ns, _, rfl, hl, by decide, by decide, by show (0 : Int) < 2; decide, ?_⟩
  obtain ⟨wv, e, m⟩ := atI_some (xs := [Dv.str (wd false), .str (wd true)]) (i := drawOf ns 0 % 2) (by omega) (by show drawOf ns 0 % 2 < 2; omega)
  show (match atI [Dv.str (wd false), .str (wd true)] (drawOf ns 0 % 2) with | some d => _ | none => False)
  rw [e]
  obtain ⟨b, rfl⟩ : ∃ b, wv = .str (wd b) := by
    simp only [List.mem_cons, List.not_mem_nil, or_false] at m
    rcases m with rfl | rfl
    · exact ⟨_, rfl⟩
    · exact ⟨_, rfl⟩
  refine ⟨ns, _, rfl, hl, by decide, by decide, by show (0 : Int) < 7; decide, ns, decide (wd b = "node"), _, rfl, hl, by omega, by omega, fun p xs hp hxl hx => ?_⟩
  rw [wd_node] at hx
  refine ⟨ns, _, rfl, hl, by decide, by decide, ?_⟩
  show dLc _ _ dYes _ _ _ _ _
  refine dLc_map xs toT (fun M2 => M2 p = some (.lst xs)) (fun R h => ?_) (by omega) mup_same (fun d hd R hR => ?_) ?_
  · show (match (mup M p (.lst xs)) p with | some (.lst ds) => _ | _ => False)
    rw [mup_same]
    exact h
  · obtain ⟨k, v, rfl, _⟩ := hx d hd
    exact hR
  have hy : ∀ y ∈ xs.map toT, GoodP b y := fun y hy => by
    obtain ⟨d, hd, rfl⟩ := List.mem_map.mp hy
    exact good_toT (hx d hd)
  have hyl : (xs.map toT).length = xs.length := List.length_map ..
  have pf := page_fine (b := b) (M := mup M p (.lst xs)) (fun y hz => (hy y hz).fine _) (by omega)
  refine ⟨_, rfl, pf.k, pf.s, pf.t, ?_⟩
  show dOr _ _ _ _ _
  refine dOr_go (x := !b) (y := decide (0 < xs.length)) (fun R h => ?_) (fun R h => ?_) ?_
  · show R (.bl (decide (wd b = "leaf"))) _
    rw [wd_leaf]
    exact h
  · show (match (mup M p (.lst xs)) p with | some (.lst xs) => _ | _ => False)
    rw [mup_same]
    show R (.bl (decide (((xs.length : Nat) : Int) > 0))) _
    rw [show decide (((xs.length : Nat) : Int) > 0) = decide (0 < xs.length) from decide_eq_decide.mpr (by omega)]
    exact h
  refine ⟨_, _, rfl, ?_⟩
  show (if (!decide (_ = _)) = true then _ else _)
  refine iteBF (by rw [page_good hy (by omega), hyl]; simp) ?_
  dsimp only [dNext, dSeq]
  refine ifS_key (fun e m => ∃ p' xs', e = [some (.scr ns), some (.str (wd b)), some (.ref p'), some (.int (drawOf ns 3)), some (.tup [.str (wd b), .tup (xs.map toT)]), none, none, none] ∧ m p' = some (.lst xs') ∧ xs'.length ≤ 6 ∧ 1 ≤ xs'.length ∧ (∀ d ∈ xs', GoodE b d) ∧ MLe M m) (fun nx key => ?_) ?_
  · show (match (mup M p (.lst xs)) p with | some (.lst xs) => _ | _ => False)
    rw [mup_same]
    show (if decide (((xs.length : Nat) : Int) = 0) = true then _ else _)
    refine iteB (fun h => ?_) (fun h => ?_)
    · intro p2 hp2
      refine key _ _ ⟨p2, [.lst [.tup [.int 1, .str "a"], .int 7]], rfl, mup_same, by simp, by simp, fun d hd => ?_, (MLe.up hp).trans (MLe.up hp2)⟩
      rw [List.mem_singleton.mp hd]
      refine ⟨_, _, rfl, ⟨fun M => ⟨rfl, by decide +kernel, by decide +kernel⟩, by decide +kernel, by decide +kernel⟩, ⟨fun M => (FineM.int _).mono (by decide), by decide +kernel, fun _ => rfl⟩⟩
    · exact key _ _ ⟨p, xs, rfl, mup_same, by omega, by have := of_decide_eq_false h; omega, hx, MLe.up hp⟩
  rintro e m1 ⟨p', xs', rfl, hm, l6, l1, hg', lm⟩
  refine ⟨⟨by decide, by decide⟩, ?_⟩
  show (match m1 p' with | some (.lst xs) => _ | _ => False)
  rw [hm]
  refine ⟨by show (0 : Int) < ((xs'.length : Nat) : Int); omega, ?_⟩
  obtain ⟨pl, hpl⟩ : ∃ pl : Nat, drawOf ns 3 / 50 % ((xs'.length : Nat) : Int) = (pl : Nat) := ⟨(drawOf ns 3 / 50 % ((xs'.length : Nat) : Int)).toNat, (Int.toNat_of_nonneg (Int.emod_nonneg _ (by omega))).symm⟩
  have lpl : pl < xs'.length := by have := Int.emod_lt_of_pos (drawOf ns 3 / 50) (show (0 : Int) < ((xs'.length : Nat) : Int) by omega); omega
  show dFor _ _ _ _ [some (.scr ns), some (.str (wd b)), some (.ref p'), some (.int (drawOf ns 3)), some (.tup [.str (wd b), .tup (xs.map toT)]), none, some (.int (drawOf ns 3 / 50 % ((xs'.length : Nat) : Int))), none] m1
  rw [hpl]
  unfold dFor
  refine ⟨⟨by decide, by decide, by decide, by decide⟩, fun i e m => MLe m1 m ∧ ∃ x7, e = [some (.scr ns), some (.str (wd b)), some (.ref p'), some (.int (drawOf ns 3)), some (.tup [.str (wd b), .tup (xs.map toT)]), none, some (.int (pl : Nat)), x7],
    ⟨MLe.refl, none, rfl⟩, fun _ _ _ _ => trivial, ?_, ?_⟩
  · rintro i d e m hd ⟨hm1, x7, rfl⟩
    obtain ⟨rfl, hi⟩ := range_at hd
    have hi : i < 6 := hi
    refine ⟨b, p', _, pl, _, xs', rfl, hm1 _ _ hm, l6, hg', by omega, by omega, lpl, d3.1, by omega, fun d m2 h2 fd ed => ?_⟩
    refine ⟨_, rfl, fd.k, fd.s, fd.t, _, _, rfl, ?_⟩
    show (if (!decide (_ = _)) = true then _ else _)
    refine iteBF (by rw [ed, decide_eq_false (show ¬ (1 + (i : Int)) = 0 by omega)]; rfl) ?_
    exact ⟨hm1.trans h2, _, rfl⟩
  rintro e m ⟨hm1, x7, rfl⟩
  refine ⟨b, p', _, pl, _, xs', rfl, hm1 _ _ hm, l6, hg', by decide, by decide, lpl, d3.1, by omega, fun d m2 h2 fd ed => ?_⟩
  refine ⟨_, rfl, fd.k, fd.s, fd.t, _, _, rfl, ?_⟩
  show (if (!decide (_ = _)) = true then _ else _)
  refine iteBF (by rw [ed]; rfl) ?_
  refine ⟨_, rfl, rfl, by decide, rfl, _, _, rfl, ?_⟩
  show (if decide (_ = _) = true then _ else _)
  refine iteBT rfl ?_
  refine ⟨_, rfl, rfl, by decide, rfl, _, _, rfl, ?_⟩
  show (if decide (_ = _) = true then _ else _)
  refine iteBT rfl ?_
  refine ⟨_, rfl, rfl, by show 1 ≤ 100000; decide, wd_txt b, _, _, rfl, ?_⟩
  exact ⟨M, (lm.trans hm1).trans h2, q⟩
end
end Vk
set_option linter.unusedVariables false
set_option linter.unusedSimpArgs false
namespace Vk
open PySem PySem.Spec PyProof.Rows L2
theorem fun_mkD {K : PySem.W.Frag} {x qual : Str} {st : Stmt} {f : Addr} {oc : Value} {od : Option Addr} {kV doc pm : Value} {an : Option Addr} {cd ct : Value} {sl : Array (Option Value)} (l : K.lookup f = some ⟨oc, od, .func (PySem.W.fnOf x qual (defArgs st) (defBody st) (defScope st) .none kV doc pm an cd ct), sl⟩) (c : PySem.W.codeIn K cd qual = true) (k : PySem.W.keepIn K (.ref f) = true) : L2.Fun K x qual st f (PySem.W.fnOf x qual (defArgs st) (defBody st) (defScope st) .none kV doc pm an cd ct) := fun_mk l c k
def spLawD (K : PySem.W.Frag) : Sp := fun vs H Q _ => ∃ (a : Addr) (ns : List Int), vs = [.ref a] ∧ SqL K H a (ns.map V.int) ∧ ns.length ≤ 63 ∧ ∀ H', Q (.bl true) H'
theorem law_of {P : Program} {w : World} {K : PySem.W.Frag} {mg : Str → Option Value} {base : Heap} {k : Nat} {f : Addr} {fd : FuncData} (g : Gk P w K mg base k f fd ["script"] (spD K F_law)) : Gk P w K mg base k f fd ["script"] (spLawD K) := by
  refine Gk.weak (fun vs H Q E h => ?_) g
  obtain ⟨a, ns, rfl, hS, hl, q⟩ := h
  have e : hid (fun _ => false) (fun _ => none) H = H := by funext b; rfl
  refine ⟨fun _ => false, [.scr ns], fun _ => none, fun d _ => d = .bl true, .cons (.scr (by rw [e]; exact hS)) .nil, ⟨fun _ _ z => (by cases z), fun _ z => (by cases z)⟩, ⟨ns, rfl, hl, rfl⟩, ?_⟩
  rintro d M' v H' rfl g rd hr
  cases rd
  exact q H'
theorem all_mk {l : PySem.W.OpenLaw} {w : World} {K : PySem.W.Frag} {h : Heap} {mg : Str → Option Value} {fa f_is_plain f_atom f_is_integer f_is_at_least f_is_page f_are_pairs f_is_key f_is_child f_draw f_lkey f_deep f_lparts f_odd_key f_odd_value f_turned f_is f_law : Addr} (X : K.In h) (G : h.Ns mainGlobals mg) (hfa : mg "law" = some (.ref fa))
    {od_is_plain an_is_plain od_atom an_atom od_is_integer an_is_integer od_is_at_least an_is_at_least od_is_page an_is_page od_are_pairs an_are_pairs od_is_key an_is_key od_is_child an_is_child od_draw an_draw od_lkey an_lkey od_deep an_deep od_lparts an_lparts od_odd_key an_odd_key od_odd_value an_odd_value od_turned an_turned od_is an_is od_law an_law : Option Addr} {sl_is_plain sl_atom sl_is_integer sl_is_at_least sl_is_page sl_are_pairs sl_is_key sl_is_child sl_draw sl_lkey sl_deep sl_lparts sl_odd_key sl_odd_value sl_turned sl_is sl_law : Array (Option Value)}
    {oc_is_plain kV_is_plain dc_is_plain pm_is_plain cd_is_plain ct_is_plain oc_atom kV_atom dc_atom pm_atom cd_atom ct_atom oc_is_integer kV_is_integer dc_is_integer pm_is_integer cd_is_integer ct_is_integer oc_is_at_least kV_is_at_least dc_is_at_least pm_is_at_least cd_is_at_least ct_is_at_least oc_is_page kV_is_page dc_is_page pm_is_page cd_is_page ct_is_page oc_are_pairs kV_are_pairs dc_are_pairs pm_are_pairs cd_are_pairs ct_are_pairs oc_is_key kV_is_key dc_is_key pm_is_key cd_is_key ct_is_key oc_is_child kV_is_child dc_is_child pm_is_child cd_is_child ct_is_child oc_draw kV_draw dc_draw pm_draw cd_draw ct_draw oc_lkey kV_lkey dc_lkey pm_lkey cd_lkey ct_lkey oc_deep kV_deep dc_deep pm_deep cd_deep ct_deep oc_lparts kV_lparts dc_lparts pm_lparts cd_lparts ct_lparts oc_odd_key kV_odd_key dc_odd_key pm_odd_key cd_odd_key ct_odd_key oc_odd_value kV_odd_value dc_odd_value pm_odd_value cd_odd_value ct_odd_value oc_turned kV_turned dc_turned pm_turned cd_turned ct_turned oc_is kV_is dc_is pm_is cd_is ct_is oc_law kV_law dc_law pm_law cd_law ct_law : Value}
    (a_is_plain : PySem.W.nsIn K mainGlobals "is_plain" = some (some (.ref f_is_plain)))
    (l_is_plain : K.lookup f_is_plain = some ⟨oc_is_plain, od_is_plain, .func (PySem.W.fnOf "is_plain" "is_plain" (defArgs s_is_plain) (defBody s_is_plain) (defScope s_is_plain) .none kV_is_plain dc_is_plain pm_is_plain an_is_plain cd_is_plain ct_is_plain), sl_is_plain⟩)
    (c_is_plain : PySem.W.codeIn K cd_is_plain "is_plain" = true) (k_is_plain : PySem.W.keepIn K (.ref f_is_plain) = true)
    (a_atom : PySem.W.nsIn K mainGlobals "_is_plain_atom" = some (some (.ref f_atom)))
    (l_atom : K.lookup f_atom = some ⟨oc_atom, od_atom, .func (PySem.W.fnOf "_is_plain_atom" "_is_plain_atom" (defArgs s_atom) (defBody s_atom) (defScope s_atom) .none kV_atom dc_atom pm_atom an_atom cd_atom ct_atom), sl_atom⟩)
    (c_atom : PySem.W.codeIn K cd_atom "_is_plain_atom" = true) (k_atom : PySem.W.keepIn K (.ref f_atom) = true)
    (a_is_integer : PySem.W.nsIn K mainGlobals "is_integer" = some (some (.ref f_is_integer)))
    (l_is_integer : K.lookup f_is_integer = some ⟨oc_is_integer, od_is_integer, .func (PySem.W.fnOf "is_integer" "is_integer" (defArgs s_is_integer) (defBody s_is_integer) (defScope s_is_integer) .none kV_is_integer dc_is_integer pm_is_integer an_is_integer cd_is_integer ct_is_integer), sl_is_integer⟩)
    (c_is_integer : PySem.W.codeIn K cd_is_integer "is_integer" = true) (k_is_integer : PySem.W.keepIn K (.ref f_is_integer) = true)
    (a_is_at_least : PySem.W.nsIn K mainGlobals "is_at_least" = some (some (.ref f_is_at_least)))
    (l_is_at_least : K.lookup f_is_at_least = some ⟨oc_is_at_least, od_is_at_least, .func (PySem.W.fnOf "is_at_least" "is_at_least" (defArgs s_is_at_least) (defBody s_is_at_least) (defScope s_is_at_least) .none kV_is_at_least dc_is_at_least pm_is_at_least an_is_at_least cd_is_at_least ct_is_at_least), sl_is_at_least⟩)
    (c_is_at_least : PySem.W.codeIn K cd_is_at_least "is_at_least" = true) (k_is_at_least : PySem.W.keepIn K (.ref f_is_at_least) = true)
    (a_is_page : PySem.W.nsIn K mainGlobals "is_page" = some (some (.ref f_is_page)))
    (l_is_page : K.lookup f_is_page = some ⟨oc_is_page, od_is_page, .func (PySem.W.fnOf "is_page" "is_page" (defArgs s_is_page) (defBody s_is_page) (defScope s_is_page) .none kV_is_page dc_is_page pm_is_page an_is_page cd_is_page ct_is_page), sl_is_page⟩)
    (c_is_page : PySem.W.codeIn K cd_is_page "is_page" = true) (k_is_page : PySem.W.keepIn K (.ref f_is_page) = true)
    (a_are_pairs : PySem.W.nsIn K mainGlobals "_are_pairs" = some (some (.ref f_are_pairs)))
    (l_are_pairs : K.lookup f_are_pairs = some ⟨oc_are_pairs, od_are_pairs, .func (PySem.W.fnOf "_are_pairs" "_are_pairs" (defArgs s_are_pairs) (defBody s_are_pairs) (defScope s_are_pairs) .none kV_are_pairs dc_are_pairs pm_are_pairs an_are_pairs cd_are_pairs ct_are_pairs), sl_are_pairs⟩)
    (c_are_pairs : PySem.W.codeIn K cd_are_pairs "_are_pairs" = true) (k_are_pairs : PySem.W.keepIn K (.ref f_are_pairs) = true)
    (a_is_key : PySem.W.nsIn K mainGlobals "_is_key" = some (some (.ref f_is_key)))
    (l_is_key : K.lookup f_is_key = some ⟨oc_is_key, od_is_key, .func (PySem.W.fnOf "_is_key" "_is_key" (defArgs s_is_key) (defBody s_is_key) (defScope s_is_key) .none kV_is_key dc_is_key pm_is_key an_is_key cd_is_key ct_is_key), sl_is_key⟩)
    (c_is_key : PySem.W.codeIn K cd_is_key "_is_key" = true) (k_is_key : PySem.W.keepIn K (.ref f_is_key) = true)
    (a_is_child : PySem.W.nsIn K mainGlobals "_is_child" = some (some (.ref f_is_child)))
    (l_is_child : K.lookup f_is_child = some ⟨oc_is_child, od_is_child, .func (PySem.W.fnOf "_is_child" "_is_child" (defArgs s_is_child) (defBody s_is_child) (defScope s_is_child) .none kV_is_child dc_is_child pm_is_child an_is_child cd_is_child ct_is_child), sl_is_child⟩)
    (c_is_child : PySem.W.codeIn K cd_is_child "_is_child" = true) (k_is_child : PySem.W.keepIn K (.ref f_is_child) = true)
    (a_draw : PySem.W.nsIn K mainGlobals "_law_draw" = some (some (.ref f_draw)))
    (l_draw : K.lookup f_draw = some ⟨oc_draw, od_draw, .func (PySem.W.fnOf "_law_draw" "_law_draw" (defArgs sDraw) (defBody sDraw) (defScope sDraw) .none kV_draw dc_draw pm_draw an_draw cd_draw ct_draw), sl_draw⟩)
    (c_draw : PySem.W.codeIn K cd_draw "_law_draw" = true) (k_draw : PySem.W.keepIn K (.ref f_draw) = true)
    (a_lkey : PySem.W.nsIn K mainGlobals "_law_key" = some (some (.ref f_lkey)))
    (l_lkey : K.lookup f_lkey = some ⟨oc_lkey, od_lkey, .func (PySem.W.fnOf "_law_key" "_law_key" (defArgs s_lkey) (defBody s_lkey) (defScope s_lkey) .none kV_lkey dc_lkey pm_lkey an_lkey cd_lkey ct_lkey), sl_lkey⟩)
    (c_lkey : PySem.W.codeIn K cd_lkey "_law_key" = true) (k_lkey : PySem.W.keepIn K (.ref f_lkey) = true)
    (a_deep : PySem.W.nsIn K mainGlobals "_law_deep" = some (some (.ref f_deep)))
    (l_deep : K.lookup f_deep = some ⟨oc_deep, od_deep, .func (PySem.W.fnOf "_law_deep" "_law_deep" (defArgs s_deep) (defBody s_deep) (defScope s_deep) .none kV_deep dc_deep pm_deep an_deep cd_deep ct_deep), sl_deep⟩)
    (c_deep : PySem.W.codeIn K cd_deep "_law_deep" = true) (k_deep : PySem.W.keepIn K (.ref f_deep) = true)
    (a_lparts : PySem.W.nsIn K mainGlobals "_law_parts" = some (some (.ref f_lparts)))
    (l_lparts : K.lookup f_lparts = some ⟨oc_lparts, od_lparts, .func (PySem.W.fnOf "_law_parts" "_law_parts" (defArgs s_lparts) (defBody s_lparts) (defScope s_lparts) .none kV_lparts dc_lparts pm_lparts an_lparts cd_lparts ct_lparts), sl_lparts⟩)
    (c_lparts : PySem.W.codeIn K cd_lparts "_law_parts" = true) (k_lparts : PySem.W.keepIn K (.ref f_lparts) = true)
    (a_odd_key : PySem.W.nsIn K mainGlobals "_law_odd_key" = some (some (.ref f_odd_key)))
    (l_odd_key : K.lookup f_odd_key = some ⟨oc_odd_key, od_odd_key, .func (PySem.W.fnOf "_law_odd_key" "_law_odd_key" (defArgs s_odd_key) (defBody s_odd_key) (defScope s_odd_key) .none kV_odd_key dc_odd_key pm_odd_key an_odd_key cd_odd_key ct_odd_key), sl_odd_key⟩)
    (c_odd_key : PySem.W.codeIn K cd_odd_key "_law_odd_key" = true) (k_odd_key : PySem.W.keepIn K (.ref f_odd_key) = true)
    (a_odd_value : PySem.W.nsIn K mainGlobals "_law_odd_value" = some (some (.ref f_odd_value)))
    (l_odd_value : K.lookup f_odd_value = some ⟨oc_odd_value, od_odd_value, .func (PySem.W.fnOf "_law_odd_value" "_law_odd_value" (defArgs s_odd_value) (defBody s_odd_value) (defScope s_odd_value) .none kV_odd_value dc_odd_value pm_odd_value an_odd_value cd_odd_value ct_odd_value), sl_odd_value⟩)
    (c_odd_value : PySem.W.codeIn K cd_odd_value "_law_odd_value" = true) (k_odd_value : PySem.W.keepIn K (.ref f_odd_value) = true)
    (a_turned : PySem.W.nsIn K mainGlobals "_law_turned" = some (some (.ref f_turned)))
    (l_turned : K.lookup f_turned = some ⟨oc_turned, od_turned, .func (PySem.W.fnOf "_law_turned" "_law_turned" (defArgs s_turned) (defBody s_turned) (defScope s_turned) .none kV_turned dc_turned pm_turned an_turned cd_turned ct_turned), sl_turned⟩)
    (c_turned : PySem.W.codeIn K cd_turned "_law_turned" = true) (k_turned : PySem.W.keepIn K (.ref f_turned) = true)
    (a_is : PySem.W.nsIn K mainGlobals "_law_is" = some (some (.ref f_is)))
    (l_is : K.lookup f_is = some ⟨oc_is, od_is, .func (PySem.W.fnOf "_law_is" "_law_is" (defArgs s_is) (defBody s_is) (defScope s_is) .none kV_is dc_is pm_is an_is cd_is ct_is), sl_is⟩)
    (c_is : PySem.W.codeIn K cd_is "_law_is" = true) (k_is : PySem.W.keepIn K (.ref f_is) = true)
    (a_law : PySem.W.nsIn K mainGlobals "law" = some (some (.ref f_law)))
    (l_law : K.lookup f_law = some ⟨oc_law, od_law, .func (PySem.W.fnOf "law" "law" (defArgs s_law) (defBody s_law) (defScope s_law) .none kV_law dc_law pm_law an_law cd_law ct_law), sl_law⟩)
    (c_law : PySem.W.codeIn K cd_law "law" = true) (k_law : PySem.W.keepIn K (.ref f_law) = true)
    {qt_INTEGER_BOUND : Tok} (a_INTEGER_BOUND : PySem.W.nsIn K mainGlobals "INTEGER_BOUND" = some (some (.int (10 ^ 60) qt_INTEGER_BOUND)))
    {qt_MOST_TUPLES : Tok} (a_MOST_TUPLES : PySem.W.nsIn K mainGlobals "MOST_TUPLES" = some (some (.int (30) qt_MOST_TUPLES)))
    {qt_MOST_PARTS : Tok} (a_MOST_PARTS : PySem.W.nsIn K mainGlobals "MOST_PARTS" = some (some (.int (6) qt_MOST_PARTS)))
    (z_int : PySem.W.nsIn K mainGlobals "int" = some none)
    (z_bool : PySem.W.nsIn K mainGlobals "bool" = some none)
    (z_str : PySem.W.nsIn K mainGlobals "str" = some none)
    (z_tuple : PySem.W.nsIn K mainGlobals "tuple" = some none)
    (z_list : PySem.W.nsIn K mainGlobals "list" = some none)
    (z_type : PySem.W.nsIn K mainGlobals "type" = some none)
    (z_isinstance : PySem.W.nsIn K mainGlobals "isinstance" = some none)
    (z_len : PySem.W.nsIn K mainGlobals "len" = some none)
    (z_all : PySem.W.nsIn K mainGlobals "all" = some none)
    (z_range : PySem.W.nsIn K mainGlobals "range" = some none)
    (z_min : PySem.W.nsIn K mainGlobals "min" = some none)
    : ∃ fd : FuncData, (∀ (s : Shared) (v : Value), BindsTo s fd ⟨[v], []⟩ [("script", v)]) ∧ ∀ base : Heap, K.In base → base.Ns mainGlobals mg → Gk l.prog w K mg base 5 fa fd ["script"] (spLawD K) := by
  have e := hfa.symm.trans (PySem.W.mg_of X G a_law)
  cases e
  have Fn_is_plain := fun_mkD (st := s_is_plain) l_is_plain c_is_plain k_is_plain
  have b_is_plain := Fn_is_plain.binds (ps := ["value"]) fun _ _ _ _ _ _ us hl => match us, hl with | [_], _ => rfl
  have Fn_atom := fun_mkD (st := s_atom) l_atom c_atom k_atom
  have b_atom := Fn_atom.binds (ps := ["value"]) fun _ _ _ _ _ _ us hl => match us, hl with | [_], _ => rfl
  have Fn_is_integer := fun_mkD (st := s_is_integer) l_is_integer c_is_integer k_is_integer
  have b_is_integer := Fn_is_integer.binds (ps := ["value"]) fun _ _ _ _ _ _ us hl => match us, hl with | [_], _ => rfl
  have Fn_is_at_least := fun_mkD (st := s_is_at_least) l_is_at_least c_is_at_least k_is_at_least
  have b_is_at_least := Fn_is_at_least.binds (ps := ["value", "least"]) fun _ _ _ _ _ _ us hl => match us, hl with | [_, _], _ => rfl
  have Fn_is_page := fun_mkD (st := s_is_page) l_is_page c_is_page k_is_page
  have b_is_page := Fn_is_page.binds (ps := ["value"]) fun _ _ _ _ _ _ us hl => match us, hl with | [_], _ => rfl
  have Fn_are_pairs := fun_mkD (st := s_are_pairs) l_are_pairs c_are_pairs k_are_pairs
  have b_are_pairs := Fn_are_pairs.binds (ps := ["parts", "least"]) fun _ _ _ _ _ _ us hl => match us, hl with | [_, _], _ => rfl
  have Fn_is_key := fun_mkD (st := s_is_key) l_is_key c_is_key k_is_key
  have b_is_key := Fn_is_key.binds (ps := ["value"]) fun _ _ _ _ _ _ us hl => match us, hl with | [_], _ => rfl
  have Fn_is_child := fun_mkD (st := s_is_child) l_is_child c_is_child k_is_child
  have b_is_child := Fn_is_child.binds (ps := ["pair"]) fun _ _ _ _ _ _ us hl => match us, hl with | [_], _ => rfl
  have Fn_draw := fun_mkD (st := sDraw) l_draw c_draw k_draw
  have b_draw := Fn_draw.binds (ps := ["script", "k"]) fun _ _ _ _ _ _ us hl => match us, hl with | [_, _], _ => rfl
  have Fn_lkey := fun_mkD (st := s_lkey) l_lkey c_lkey k_lkey
  have b_lkey := Fn_lkey.binds (ps := ["number"]) fun _ _ _ _ _ _ us hl => match us, hl with | [_], _ => rfl
  have Fn_deep := fun_mkD (st := s_deep) l_deep c_deep k_deep
  have b_deep := Fn_deep.binds (ps := ["count"]) fun _ _ _ _ _ _ us hl => match us, hl with | [_], _ => rfl
  have Fn_lparts := fun_mkD (st := s_lparts) l_lparts c_lparts k_lparts
  have b_lparts := Fn_lparts.binds (ps := ["script", "is_node", "count"]) fun _ _ _ _ _ _ us hl => match us, hl with | [_, _, _], _ => rfl
  have Fn_odd_key := fun_mkD (st := s_odd_key) l_odd_key c_odd_key k_odd_key
  have b_odd_key := Fn_odd_key.binds (ps := ["number"]) fun _ _ _ _ _ _ us hl => match us, hl with | [_], _ => rfl
  have Fn_odd_value := fun_mkD (st := s_odd_value) l_odd_value c_odd_value k_odd_value
  have b_odd_value := Fn_odd_value.binds (ps := ["number", "is_node"]) fun _ _ _ _ _ _ us hl => match us, hl with | [_, _], _ => rfl
  have Fn_turned := fun_mkD (st := s_turned) l_turned c_turned k_turned
  have b_turned := Fn_turned.binds (ps := ["word", "parts", "fault", "place", "number"]) fun _ _ _ _ _ _ us hl => match us, hl with | [_, _, _, _, _], _ => rfl
  have Fn_is := fun_mkD (st := s_is) l_is c_is k_is
  have b_is := Fn_is.binds (ps := ["answer", "due"]) fun _ _ _ _ _ _ us hl => match us, hl with | [_, _], _ => rfl
  have Fn_law := fun_mkD (st := s_law) l_law c_law k_law
  refine ⟨PySem.W.fnOf "law" "law" (defArgs s_law) (defBody s_law) (defScope s_law) .none kV_law dc_law pm_law an_law cd_law ct_law, fun s v => .of_eq rfl, fun base _ _ => ?_⟩
  have T : Tx K mg := { mg_INTEGER_BOUND := ⟨_, PySem.W.mg_of X G a_INTEGER_BOUND⟩, mg_MOST_TUPLES := ⟨_, PySem.W.mg_of X G a_MOST_TUPLES⟩, mg_MOST_PARTS := ⟨_, PySem.W.mg_of X G a_MOST_PARTS⟩, int := PySem.W.mg_none_of X G z_int, bool := PySem.W.mg_none_of X G z_bool, str := PySem.W.mg_none_of X G z_str, tuple := PySem.W.mg_none_of X G z_tuple, list := PySem.W.mg_none_of X G z_list, type := PySem.W.mg_none_of X G z_type, isinstance := PySem.W.mg_none_of X G z_isinstance, len := PySem.W.mg_none_of X G z_len, all := PySem.W.mg_none_of X G z_all, range := PySem.W.mg_none_of X G z_range, min := PySem.W.mg_none_of X G z_min }
  have Td : TDraw mg := ⟨T.len, T.int, T.min, T.range⟩
  have C_is_integer : DCal l.prog w K mg base "is_integer" 1 F_is_integer := ⟨f_is_integer, _, _, ok_is_integer Fn_is_integer T, PySem.W.mg_of X G a_is_integer, k_is_integer, b_is_integer⟩
  have C_is_plain_atom : DCal l.prog w K mg base "_is_plain_atom" 2 F_atom := ⟨f_atom, _, _, ok_atom Fn_atom T C_is_integer, PySem.W.mg_of X G a_atom, k_atom, b_atom⟩
  have C_is_plain : DCal l.prog w K mg base "is_plain" 3 F_is_plain := ⟨f_is_plain, _, _, ok_is_plain Fn_is_plain T C_is_plain_atom, PySem.W.mg_of X G a_is_plain, k_is_plain, b_is_plain⟩
  have C_is_at_least : DCal l.prog w K mg base "is_at_least" 2 F_is_at_least := ⟨f_is_at_least, _, _, ok_is_at_least Fn_is_at_least T C_is_integer, PySem.W.mg_of X G a_is_at_least, k_is_at_least, b_is_at_least⟩
  have C_are_pairs : DCal l.prog w K mg base "_are_pairs" 1 F_are_pairs := ⟨f_are_pairs, _, _, ok_are_pairs Fn_are_pairs T, PySem.W.mg_of X G a_are_pairs, k_are_pairs, b_are_pairs⟩
  have C_is_key : DCal l.prog w K mg base "_is_key" 2 F_is_key := ⟨f_is_key, _, _, ok_is_key Fn_is_key T C_is_integer, PySem.W.mg_of X G a_is_key, k_is_key, b_is_key⟩
  have C_is_child : DCal l.prog w K mg base "_is_child" 3 F_is_child := ⟨f_is_child, _, _, ok_is_child Fn_is_child T C_is_key C_is_at_least, PySem.W.mg_of X G a_is_child, k_is_child, b_is_child⟩
  have C_is_page : DCal l.prog w K mg base "is_page" 4 F_is_page := ⟨f_is_page, _, _, ok_is_page Fn_is_page T C_is_plain C_are_pairs C_is_key C_is_child, PySem.W.mg_of X G a_is_page, k_is_page, b_is_page⟩
  have C_draw : DCal l.prog w K mg base "_law_draw" 1 F_draw := ⟨f_draw, _, _, ok_drawD Fn_draw Td, PySem.W.mg_of X G a_draw, k_draw, b_draw⟩
  have C_key : DCal l.prog w K mg base "_law_key" 1 F_lkey := ⟨f_lkey, _, _, ok_lkey Fn_lkey T, PySem.W.mg_of X G a_lkey, k_lkey, b_lkey⟩
  have C_deep : DCal l.prog w K mg base "_law_deep" 1 F_deep := ⟨f_deep, _, _, ok_deep Fn_deep T, PySem.W.mg_of X G a_deep, k_deep, b_deep⟩
  have C_parts : DCal l.prog w K mg base "_law_parts" 2 F_lparts := ⟨f_lparts, _, _, ok_lparts Fn_lparts T C_draw C_key C_deep, PySem.W.mg_of X G a_lparts, k_lparts, b_lparts⟩
  have C_odd_key : DCal l.prog w K mg base "_law_odd_key" 1 F_odd_key := ⟨f_odd_key, _, _, ok_odd_key Fn_odd_key T, PySem.W.mg_of X G a_odd_key, k_odd_key, b_odd_key⟩
  have C_odd_value : DCal l.prog w K mg base "_law_odd_value" 2 F_odd_value := ⟨f_odd_value, _, _, ok_odd_value Fn_odd_value T C_deep, PySem.W.mg_of X G a_odd_value, k_odd_value, b_odd_value⟩
  have C_turned : DCal l.prog w K mg base "_law_turned" 3 F_turned := ⟨f_turned, _, _, ok_turned Fn_turned T C_odd_key C_odd_value, PySem.W.mg_of X G a_turned, k_turned, b_turned⟩
  have C_is : DCal l.prog w K mg base "_law_is" 1 F_is := ⟨f_is, _, _, ok_is Fn_is T, PySem.W.mg_of X G a_is, k_is, b_is⟩
  exact law_of (ok_law Fn_law T C_parts C_draw C_is C_is_page C_turned)
theorem walk {l : PySem.W.OpenLaw} {q : Program} {loose : List Str} {XP : (Str → Option Value) → Heap → Prop} {YP : World → Heap → Prop} {d : DefRec} {K : Params → PySem.W.Frag} (hn : l.most = some 63) (hdf : d.params.defaults = [])
    (hY : ∀ (w : World) (h : Heap), YP w h → (K w.params).In h)
    (F : ∀ (w : World) (mg : Str → Option Value) (fa : Addr) (h : Heap), (K w.params).In h → h.Ns mainGlobals mg → mg d.name = some (.ref fa) →
      ∃ fd : FuncData, (∀ (s : Shared) (u : Value), BindsTo s fd ⟨[u], []⟩ [("script", u)]) ∧ ∀ base : Heap, (K w.params).In base → base.Ns mainGlobals mg → Gk l.prog w (K w.params) mg base 5 fa fd ["script"] (spLawD (K w.params))) :
    PySem.W.WalkO q loose XP YP l.row.toRowW d [] (fun f vs => PySem.call f vs) :=
  walkG (n := 63) (k := 5) (x := "script") (sp := fun w => spLawD (K w.params)) hn (by decide) hdf ⟨rfl, by decide, by decide⟩ hY F (fun _ _ a ns hl _ hS => ⟨a, ns, rfl, hS, hl, fun _ => rfl⟩)
end Vk
open PySem PySem.W PyProof.Rows
set_option maxRecDepth 100000 in
set_option maxHeartbeats 0 in
theorem PySem.Challenge.cw_trothbase_k07_forms_of_pages_holds : PySem.Challenge.rw_trothbase_k07_forms_of_pages.Holds := by
  w_on; o_law; k_head; (case hw => w_witness2)
  k_fill
  refine Vk.walk (l := PySem.Challenge.rw_trothbase_k07_forms_of_pages) rfl rfl (fun w h Y => PySem.W.kIn_of Y) ?F
  case F =>
    intro w mg fa h KX G hmg
    refine' Vk.all_mk KX G hmg ?a_is_plain ?l_is_plain ?c_is_plain ?k_is_plain ?a_atom ?l_atom ?c_atom ?k_atom ?a_is_integer ?l_is_integer ?c_is_integer ?k_is_integer ?a_is_at_least ?l_is_at_least ?c_is_at_least ?k_is_at_least ?a_is_page ?l_is_page ?c_is_page ?k_is_page ?a_are_pairs ?l_are_pairs ?c_are_pairs ?k_are_pairs ?a_is_key ?l_is_key ?c_is_key ?k_is_key ?a_is_child ?l_is_child ?c_is_child ?k_is_child ?a_draw ?l_draw ?c_draw ?k_draw ?a_lkey ?l_lkey ?c_lkey ?k_lkey ?a_deep ?l_deep ?c_deep ?k_deep ?a_lparts ?l_lparts ?c_lparts ?k_lparts ?a_odd_key ?l_odd_key ?c_odd_key ?k_odd_key ?a_odd_value ?l_odd_value ?c_odd_value ?k_odd_value ?a_turned ?l_turned ?c_turned ?k_turned ?a_is ?l_is ?c_is ?k_is ?a_law ?l_law ?c_law ?k_law ?a_INTEGER_BOUND ?a_MOST_TUPLES ?a_MOST_PARTS ?z_int ?z_bool ?z_str ?z_tuple ?z_list ?z_type ?z_isinstance ?z_len ?z_all ?z_range ?z_min
    (case a_is_plain => k_is)
    (case l_is_plain => k_is)
    (case c_is_plain => k_is)
    (case k_is_plain => k_is)
    (case a_atom => k_is)
    (case l_atom => k_is)
    (case c_atom => k_is)
    (case k_atom => k_is)
    (case a_is_integer => k_is)
    (case l_is_integer => k_is)
    (case c_is_integer => k_is)
    (case k_is_integer => k_is)
    (case a_is_at_least => k_is)
    (case l_is_at_least => k_is)
    (case c_is_at_least => k_is)
    (case k_is_at_least => k_is)
    (case a_is_page => k_is)
    (case l_is_page => k_is)
    (case c_is_page => k_is)
    (case k_is_page => k_is)
    (case a_are_pairs => k_is)
    (case l_are_pairs => k_is)
    (case c_are_pairs => k_is)
    (case k_are_pairs => k_is)
    (case a_is_key => k_is)
    (case l_is_key => k_is)
    (case c_is_key => k_is)
    (case k_is_key => k_is)
    (case a_is_child => k_is)
    (case l_is_child => k_is)
    (case c_is_child => k_is)
    (case k_is_child => k_is)
    (case a_draw => k_is)
    (case l_draw => k_is)
    (case c_draw => k_is)
    (case k_draw => k_is)
    (case a_lkey => k_is)
    (case l_lkey => k_is)
    (case c_lkey => k_is)
    (case k_lkey => k_is)
    (case a_deep => k_is)
    (case l_deep => k_is)
    (case c_deep => k_is)
    (case k_deep => k_is)
    (case a_lparts => k_is)
    (case l_lparts => k_is)
    (case c_lparts => k_is)
    (case k_lparts => k_is)
    (case a_odd_key => k_is)
    (case l_odd_key => k_is)
    (case c_odd_key => k_is)
    (case k_odd_key => k_is)
    (case a_odd_value => k_is)
    (case l_odd_value => k_is)
    (case c_odd_value => k_is)
    (case k_odd_value => k_is)
    (case a_turned => k_is)
    (case l_turned => k_is)
    (case c_turned => k_is)
    (case k_turned => k_is)
    (case a_is => k_is)
    (case l_is => k_is)
    (case c_is => k_is)
    (case k_is => k_is)
    (case a_law => k_is)
    (case l_law => k_is)
    (case c_law => k_is)
    (case k_law => k_is)
    (case a_INTEGER_BOUND => k_is)
    (case a_MOST_TUPLES => k_is)
    (case a_MOST_PARTS => k_is)
    (case z_int => k_is)
    (case z_bool => k_is)
    (case z_str => k_is)
    (case z_tuple => k_is)
    (case z_list => k_is)
    (case z_type => k_is)
    (case z_isinstance => k_is)
    (case z_len => k_is)
    (case z_all => k_is)
    (case z_range => k_is)
    (case z_min => k_is)
#print axioms PySem.Challenge.cw_trothbase_k07_forms_of_pages_holds
