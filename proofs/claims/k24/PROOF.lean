import PyProof.Rows.All
import Wide.All
import OpenK.AllK
import Wide.FinOn
import HandS.ForMost
import HandS.Strs
import HandS.IsInst
import HandS.StrMore
import HandS.NoneIn
import KE.DataEq
import HandS.TupAny
import HandS.Codes
import HandS.Wide
import HandS.FStr
import HandS.Property
import HandS.Walk
import HandS.More
import HandS.Deep
import KE.KDictDisplayH
import PySem.Challenge.RW_whensure_k24_clocks_that_run_meet_their
set_option Elab.async false
set_option linter.all false
set_option maxRecDepth 100000
namespace Vs
open PySem PySem.Spec PyProof.Rows L2

theorem posJ {j : Int} (h : decide (0 < j) = true) : 0 < j := of_decide_eq_true h
/-! ### heaps -/
theorem same_upd {H : Hp} {p : Addr} {o : HO} (h : H p = none) : Same H (upd H p o) := fun b x e => by
  rw [upd_ne (ne_of_none e h)]
  exact e
theorem sTup {K : PySem.W.Frag} {H H' : Hp} {a : Addr} {xs : List V} (e : Same H H') (h : SqT K H a xs) : SqT K H' a xs := by
  rcases h with (h | ⟨o, h⟩) | h
  · exact .inl (.inl (e _ _ h))
  · exact .inl (.inr ⟨o, e _ _ h⟩)
  · exact .inr h
/-- all that was tracked is as it was, but for what stands at o -/
def But (o : Addr) (H H' : Hp) : Prop := ∀ b u, b ≠ o → H b = some u → H' b = some u
theorem But.refl (o : Addr) (H : Hp) : But o H H := fun _ _ _ h => h
theorem But.trans {o : Addr} {H H1 H2 : Hp} (a : But o H H1) (b : But o H1 H2) : But o H H2 := fun c u n h => b c u n (a c u n h)
theorem But.of {o : Addr} {H H' : Hp} (a : Same H H') : But o H H' := fun c u _ h => a c u h
theorem But.set {o : Addr} {H : Hp} {u : HO} : But o H (upd H o u) := fun c u' n h => by rw [upd_ne n]; exact h

/-! ### xs.extend(t), t a tuple -/
theorem ext_tup (l : Addr) (items : Array Value) (n : Nat) (b : Addr) (ob : Obj) (items2 : Array Value) (n2 : Nat) (hs0 : ¬(!items.isEmpty && Builtin.List.listTooLong (items.size + items2.size)) = true) (hs1 : items.size ≤ sizeLine) (hs2 : items.size + items2.size ≤ sizeLine + 1) (hcl : ob.cls = .type "tuple") (hda : ob.data = .seq items2 n2) :
    Meets (Builtin.«list.extend» ⟨[.ref l, .ref b], []⟩) (fun _ R s => s.heap.get? l = some { cls := .type "list", dict := none, data := .seq items n, slots := #[] } ∧ s.heap.get? b = some ob ∧ R (.ok (.ret Value.none)) { s with heap := s.heap.update l (Obj.mapSeq fun x => x ++ items2), toks := s.toks }) := by
  obtain ⟨oc, od, oda, osl⟩ := ob
  cases hcl
  cases hda
  refine .of_wp fun prog w A R s h => ?_
  obtain ⟨hp, g, d, tk, os⟩ := s
  obtain ⟨hl, hb, h⟩ := h
  have f1 := AutoSeq1.idx_int; have f2 := AutoSeq1.sub_tuple_tuple; have f3 := AutoSeq1.sub_list_list; have f4 := AutoSeq1.sub_tuple_list; have f5 := AutoSeq1.sub_list_tuple
  have hz' : (items ++ items2).size ≤ sizeLine + 1 := by rw [Array.size_append]; exact hs2
  wp_walk using (wpAny_updateSeq hl rfl (hz := hs1) (_hz' := hz')), AutoSeq1.wpAny_loadPart' hl, AutoSeq1.wpAny_loadPart' hb
  exact ⟨_, rfl, h⟩
def rExtT (K : PySem.W.Frag) : V → List V → Hp → VK → Prop := fun x vs H Q => ∃ l b xs zs, x = .ref l ∧ vs = [.ref b] ∧ H l = some (.lst xs) ∧ SqT K H b zs ∧ xs.length + zs.length ≤ sizeLine ∧ Q .non (upd H l (.lst (xs ++ zs)))
theorem mt_extendT {X : Cx} : MtR X "list.extend" (rExtT X.K) := by
  intro pins s σ H x vs v us Q I rx rv h
  obtain ⟨l, b, xs, zs, rfl, rfl, hH, hB, hz, q⟩ := h
  cases rx
  obtain ⟨u, rfl, ru⟩ := rv.one
  cases ru
  obtain ⟨z, its, n, r, hl, e⟩ := I.lstM hH
  obtain ⟨its2, r2, ⟨ob, e2, hcl, n2, hda⟩, hl2⟩ := I.tuple hB
  have hl3 := r2.length
  have hsz : its.toArray.size + its2.toArray.size ≤ sizeLine := by rw [List.size_toArray, List.size_toArray]; omega
  have hlong : ¬ (!its.toArray.isEmpty && Builtin.List.listTooLong (its.toArray.size + its2.toArray.size)) = true := by
    rw [notLongL hsz, Bool.and_false]
    exact Bool.false_ne_true
  refine call_meets F.slot_list_extend ⟨_, e, rfl⟩ F.entry_list_extend (F.args_list_extend_2 _ _)
    (ext_tup l its.toArray n b ob its2.toArray n2 hlong (by rw [List.size_toArray]; omega) (by omega) hcl hda) ⟨e, e2, ?_⟩
  refine ⟨.non, _, I.lset (its' := its ++ its2) hH e (by simp) (r.append r2) ?_, rfl, q⟩
  rw [List.length_append]
  omega

/-! ### what a letter, a view holds -/
def deedNames : List Str := ["note", "kind", "mark", "send", "tell", "hear", "promise", "commit", "anew"]
theorem dn_len : deedNames.length = 9 := rfl
theorem dn_nodup : deedNames.Nodup := by decide +kernel
structure Dd where
  place : Nat
  nums : List Int
structure Ev where
  asleep : Bool
  shown : List Int
  after : List Int
  deed : Dd
  knows : List Int
structure Rc where
  dev : Int
  num : Int
  ev : Ev
structure Lt where
  s : Int
  r : Int
  k : Int
  n : Int
  recs : List Rc
def b2n (b : Bool) : Int := if b then 1 else 0
def numSeq (ns : List Int) : List Int := (ns.length : Int) :: ns
def numD (d : Dd) : List Int := (d.place : Int) :: (if d.place = 8 then numSeq d.nums else d.nums)
def numE (e : Ev) : List Int := [b2n e.asleep] ++ numSeq e.shown ++ numSeq e.after ++ numD e.deed ++ numSeq e.knows
def numR (r : Rc) : List Int := [r.dev, r.num] ++ numE r.ev
def numL (l : Lt) : List Int := [l.s, l.r, l.k, l.n, (l.recs.length : Int)] ++ l.recs.flatMap numR
def In18 (n : Int) : Prop := n.natAbs < 10 ^ 18
def Nt18 (n : Int) : Prop := In18 n ∧ 0 ≤ n
def arity (p : Nat) : Nat := [0, 2, 3, 2, 1, 2, 2, 1, 0].getD p 0
/-- which number of a deed may be below 0 -/
def mayNeg (p i : Nat) : Prop := (p = 2 ∧ i = 2) ∨ p = 7
structure Dd.Ok (d : Dd) : Prop where
  pl : d.place < 9
  len : d.nums.length ≤ 4
  ar : d.place ≠ 8 → d.nums.length = arity d.place
  sm : ∀ n ∈ d.nums, In18 n
  nt : ∀ i n, d.nums[i]? = some n → ¬ mayNeg d.place i → 0 ≤ n
structure Ev.Ok (e : Ev) : Prop where
  s1 : e.shown.length ≤ 4
  s2 : e.after.length ≤ 4
  s3 : e.knows.length ≤ 6
  m1 : ∀ n ∈ e.shown, In18 n
  m2 : ∀ n ∈ e.after, In18 n
  m3 : ∀ n ∈ e.knows, Nt18 n
  d : e.deed.Ok
structure Rc.Ok (r : Rc) : Prop where
  d : Nt18 r.dev
  n : Nt18 r.num
  e : r.ev.Ok
structure Lt.Ok (l : Lt) : Prop where
  s : Nt18 l.s
  r : Nt18 l.r
  k : Nt18 l.k
  n : Nt18 l.n
  len : l.recs.length ≤ 20
  rs : ∀ r ∈ l.recs, r.Ok
/-- the tuple of a list of ints -/
def TupI (K : PySem.W.Frag) (H : Hp) (a : Addr) (ns : List Int) : Prop := SqT K H a (ns.map V.int)
def DdAt (K : PySem.W.Frag) (H : Hp) (a : Addr) (d : Dd) : Prop :=
  ∃ z rest, deedNames[d.place]? = some z ∧ SqT K H a (.str z :: rest) ∧ ((d.place = 8 ∧ ∃ b, rest = [.ref b] ∧ TupI K H b d.nums) ∨ (d.place ≠ 8 ∧ rest = d.nums.map V.int))
def EvAt (K : PySem.W.Frag) (H : Hp) (a : Addr) (e : Ev) : Prop :=
  ∃ p q d r, SqT K H a [.bl e.asleep, .ref p, .ref q, .ref d, .ref r] ∧ TupI K H p e.shown ∧ TupI K H q e.after ∧ DdAt K H d e.deed ∧ TupI K H r e.knows
def RcAt (K : PySem.W.Frag) (H : Hp) (a : Addr) (r : Rc) : Prop := ∃ e, SqT K H a [.int r.dev, .int r.num, .ref e] ∧ EvAt K H e r.ev
/-- objects one beside the other -/
def Each {α : Type} (P : Addr → α → Prop) (as : List Addr) (xs : List α) : Prop := as.length = xs.length ∧ ∀ (i : Nat) (a : Addr) (x : α), as[i]? = some a → xs[i]? = some x → P a x
def LtAt (K : PySem.W.Frag) (H : Hp) (a : Addr) (l : Lt) : Prop :=
  ∃ b as, SqT K H a [.int l.s, .int l.r, .int l.k, .int l.n, .ref b] ∧ SqT K H b (as.map V.ref) ∧ Each (RcAt K H) as l.recs
section
variable {K : PySem.W.Frag} {H H' : Hp}
theorem TupI.keep {a ns} (e : Same H H') (h : TupI K H a ns) : TupI K H' a ns := sTup e h
theorem DdAt.keep {a d} (e : Same H H') (h : DdAt K H a d) : DdAt K H' a d := by
  obtain ⟨z, rest, h0, h1, h2⟩ := h
  refine ⟨z, rest, h0, sTup e h1, ?_⟩
  rcases h2 with ⟨h2, b, h3, h4⟩ | h2
  · exact .inl ⟨h2, b, h3, h4.keep e⟩
  · exact .inr h2
theorem EvAt.keep {a d} (e : Same H H') (h : EvAt K H a d) : EvAt K H' a d := by
  obtain ⟨p, q, d, r, h1, h2, h3, h4, h5⟩ := h
  exact ⟨p, q, d, r, sTup e h1, h2.keep e, h3.keep e, h4.keep e, h5.keep e⟩
theorem RcAt.keep {a d} (e : Same H H') (h : RcAt K H a d) : RcAt K H' a d := by
  obtain ⟨p, h1, h2⟩ := h
  exact ⟨p, sTup e h1, h2.keep e⟩
theorem Each.keep {α : Type} {P P' : Addr → α → Prop} {as xs} (h : Each P as xs) (f : ∀ a x, P a x → P' a x) : Each P' as xs := ⟨h.1, fun i a x h1 h2 => f a x (h.2 i a x h1 h2)⟩
theorem Each.nil {α : Type} {P : Addr → α → Prop} : Each P [] [] := ⟨rfl, fun i a x h => by simp at h⟩
theorem Each.snoc {α : Type} {P : Addr → α → Prop} {as xs} (h : Each P as xs) {a : Addr} {x : α} (p : P a x) : Each P (as ++ [a]) (xs ++ [x]) := by
  refine ⟨by simp [h.1], fun i b y h1 h2 => ?_⟩
  by_cases hi : i < as.length
  · rw [List.getElem?_append_left hi] at h1
    rw [List.getElem?_append_left (by rw [← h.1]; exact hi)] at h2
    exact h.2 i b y h1 h2
  · rw [List.getElem?_append_right (by omega)] at h1
    rw [List.getElem?_append_right (by rw [← h.1]; omega)] at h2
    rw [← h.1] at h2
    cases e : i - as.length with
    | zero =>
      rw [e] at h1 h2
      cases h1
      cases h2
      exact p
    | succ n =>
      rw [e] at h1
      simp at h1
theorem Each.get {α : Type} {P : Addr → α → Prop} {as xs} (h : Each P as xs) {i : Nat} {a : Addr} (ha : as[i]? = some a) : ∃ x, xs[i]? = some x ∧ P a x := by
  have hi : i < xs.length := by rw [← h.1]; exact (List.getElem?_eq_some_iff.mp ha).1
  exact ⟨xs[i], List.getElem?_eq_getElem hi, h.2 i a _ ha (List.getElem?_eq_getElem hi)⟩
theorem LtAt.keep {a d} (e : Same H H') (h : LtAt K H a d) : LtAt K H' a d := by
  obtain ⟨b, as, h1, h2, h3⟩ := h
  exact ⟨b, as, sTup e h1, sTup e h2, h3.keep fun _ _ q => q.keep e⟩
end
/-! ### sizes -/
theorem numD_len {d : Dd} (h : d.Ok) : (numD d).length ≤ 6 := by
  have := h.len
  unfold numD numSeq
  split <;> simp <;> omega
theorem numE_len {e : Ev} (h : e.Ok) : (numE e).length ≤ 24 := by
  have h1 := h.s1; have h2 := h.s2; have h3 := h.s3; have h4 := numD_len h.d
  unfold numE numSeq
  simp only [List.length_append, List.length_cons, List.length_nil]
  omega
theorem numR_len {r : Rc} (h : r.Ok) : (numR r).length ≤ 26 := by
  have h1 := numE_len h.e
  unfold numR
  simp only [List.length_append, List.length_cons, List.length_nil]
  omega
theorem flat_len {α : Type} {f : α → List Int} {m : Nat} : ∀ {xs : List α}, (∀ x ∈ xs, (f x).length ≤ m) → (xs.flatMap f).length ≤ xs.length * m
  | [], _ => by simp
  | x :: r, h => by
    have h1 := h x List.mem_cons_self
    have h2 := flat_len (xs := r) fun y hy => h y (List.mem_cons_of_mem _ hy)
    rw [List.flatMap_cons, List.length_append, List.length_cons, Nat.succ_mul]
    omega
theorem In18.zero : In18 0 := by unfold In18; decide
theorem In18.small {n : Nat} (h : n ≤ 1000) : In18 (n : Int) := by
  unfold In18
  rw [Int.natAbs_natCast]
  exact Nat.lt_of_le_of_lt h (by decide)
theorem In18.log {n : Int} (h : In18 n) : n.natAbs.log2 < 1920 := by
  unfold In18 at h
  by_cases h0 : n.natAbs = 0
  · rw [h0]
    decide
  · exact (Nat.log2_lt h0).mpr (Nat.lt_of_lt_of_le h (by decide +kernel))
theorem numD_in {d : Dd} (h : d.Ok) : ∀ n ∈ numD d, In18 n := by
  intro n hn
  have hp := h.pl
  have hl := h.len
  unfold numD at hn
  rcases List.mem_cons.mp hn with e | hn
  · rw [e]
    exact In18.small (by omega)
  · split at hn
    · unfold numSeq at hn
      rcases List.mem_cons.mp hn with e | hn
      · rw [e]
        exact In18.small (by omega)
      · exact h.sm n hn
    · exact h.sm n hn
theorem seq_in {ns : List Int} (hl : ns.length ≤ 1000) (h : ∀ n ∈ ns, In18 n) : ∀ n ∈ numSeq ns, In18 n := by
  intro n hn
  unfold numSeq at hn
  rcases List.mem_cons.mp hn with e | hn
  · rw [e]
    exact In18.small hl
  · exact h n hn
theorem numE_in {e : Ev} (h : e.Ok) : ∀ n ∈ numE e, In18 n := by
  intro n hn
  have h1 := h.s1; have h2 := h.s2; have h3 := h.s3
  unfold numE at hn
  rcases List.mem_append.mp hn with hn | hn
  · rcases List.mem_append.mp hn with hn | hn
    · rcases List.mem_append.mp hn with hn | hn
      · rcases List.mem_append.mp hn with hn | hn
        · rw [List.mem_singleton.mp hn]
          unfold b2n
          split
          · exact In18.small (n := 1) (by decide)
          · exact In18.zero
        · exact seq_in (by omega) h.m1 n hn
      · exact seq_in (by omega) h.m2 n hn
    · exact numD_in h.d n hn
  · exact seq_in (by omega) (fun n hn => (h.m3 n hn).1) n hn
theorem numR_in {r : Rc} (h : r.Ok) : ∀ n ∈ numR r, In18 n := by
  intro n hn
  unfold numR at hn
  rcases List.mem_append.mp hn with hn | hn
  · rcases List.mem_cons.mp hn with e | hn
    · rw [e]; exact h.d.1
    · rw [List.mem_singleton.mp hn]; exact h.n.1
  · exact numE_in h.e n hn
theorem numL_len {l : Lt} (h : l.Ok) : (numL l).length ≤ 600 := by
  have h1 := flat_len (f := numR) (m := 26) (xs := l.recs) fun r hr => numR_len (h.rs r hr)
  have h2 := h.len
  unfold numL
  simp only [List.length_append, List.length_cons, List.length_nil]
  omega
theorem numL_in {l : Lt} (h : l.Ok) : ∀ n ∈ numL l, In18 n := by
  intro n hn
  have hl := h.len
  unfold numL at hn
  rcases List.mem_append.mp hn with hn | hn
  · simp only [List.mem_cons, List.not_mem_nil, or_false] at hn
    rcases hn with e | e | e | e | e <;> rw [e]
    · exact h.s.1
    · exact h.r.1
    · exact h.k.1
    · exact h.n.1
    · exact In18.small (by omega)
  · obtain ⟨r, hr, hn⟩ := List.mem_flatMap.mp hn
    exact numR_in (h.rs r hr) n hn
/-! ### the text -/
def words (ns : List Int) : List Str := ns.map fun n => toString n
def textOf (head : Str) (ns : List Int) : Str := head ++ Str.ofString "\n" ++ Txt.join (Str.ofString " ") (words ns) ++ Str.ofString "\n"

theorem join_len (y : Str) : ∀ parts : List Str, (Str.join y parts).length ≤ (parts.map (·.length)).sum + parts.length * y.length
  | [] => Nat.zero_le _
  | [x] => by
    show x.length ≤ x.length + 0 + _
    omega
  | x :: z :: r => by
    have h := join_len y (z :: r)
    show (x ++ y ++ Str.join y (z :: r)).length ≤ _
    rw [Str.length_append, Str.length_append]
    rw [List.map_cons, List.sum_cons, List.length_cons, Nat.succ_mul]
    omega
theorem word_len {n : Int} (h : In18 n) : (Str.ofString (toString n)).length ≤ 19 := by
  unfold In18 at h
  have e := int_text_length_le10 (k := 18) (by decide) h
  rw [PySem.ofString_length]
  exact e
theorem words_sum {ns : List Int} (h : ∀ n ∈ ns, In18 n) : ((words ns).map (·.length)).sum ≤ ns.length * 19 := by
  induction ns with
  | nil => exact Nat.zero_le _
  | cons a r ih =>
    have h1 := word_len (h a List.mem_cons_self)
    have h2 := ih fun n hn => h n (List.mem_cons_of_mem _ hn)
    show (Str.ofString (toString a)).length + ((words r).map (·.length)).sum ≤ _
    rw [List.length_cons, Nat.succ_mul]
    omega
theorem words_len (ns : List Int) : (words ns).length = ns.length := List.length_map _
theorem blank_len : (Str.ofString " ").length = 1 := by decide +kernel
theorem nl_len : (Str.ofString "\n").length = 1 := by decide +kernel
theorem joined_len {ns : List Int} (h : ∀ n ∈ ns, In18 n) : (Txt.join (Str.ofString " ") (words ns)).length ≤ ns.length * 20 := by
  have h1 := join_len (Str.ofString " ") (words ns)
  have h2 := words_sum h
  rw [← TL.join_eq, words_len, blank_len] at h1
  omega
theorem line2 : (20000 : Nat) ≤ sizeLine := by decide
theorem join_fit {ns : List Int} (h : ∀ n ∈ ns, In18 n) (hl : ns.length ≤ 1000) : ((words ns).map (·.length)).sum + (words ns).length * (Str.ofString " ").length ≤ 16777216 := by
  have h2 := words_sum h
  rw [words_len, blank_len]
  omega
theorem sizes {n : Nat} (h : n ≤ 100000) : n ≤ sizeLine := Nat.le_trans h (by decide)
theorem sizes' {n : Nat} (h : n ≤ 100000) : n < sizeLine := Nat.lt_of_le_of_lt h (by decide)
theorem words_take_succ {ns : List Int} {i : Nat} (h : i < ns.length) : words (ns.take (i + 1)) = words (ns.take i) ++ [(toString ns[i] : Str)] := by
  unfold words
  rw [List.take_add_one, List.getElem?_eq_getElem h, List.map_append]
  rfl
theorem int_get {ns : List Int} {i : Nat} {x : V} (h : (ns.map V.int)[i]? = some x) : ∃ hi : i < ns.length, x = V.int ns[i] := by
  have hi := (List.getElem?_eq_some_iff.mp h).1
  rw [List.length_map] at hi
  refine ⟨hi, ?_⟩
  rw [List.getElem?_map, List.getElem?_eq_getElem hi] at h
  exact (Option.some.inj h).symm
theorem ref_get {as : List Addr} {i : Nat} {x : V} (h : (as.map V.ref)[i]? = some x) : ∃ hi : i < as.length, x = V.ref as[i] := by
  have hi := (List.getElem?_eq_some_iff.mp h).1
  rw [List.length_map] at hi
  refine ⟨hi, ?_⟩
  rw [List.getElem?_map, List.getElem?_eq_getElem hi] at h
  exact (Option.some.inj h).symm
/-! ### what is no list stands while the list at o changes -/
theorem butTup {K : PySem.W.Frag} {H H' : Hp} {o a : Addr} {xs ys : List V} (e : But o H H') (ho : H o = some (.lst xs)) (h : SqT K H a ys) : SqT K H' a ys := by
  rcases h with (h | ⟨ob, h⟩) | h
  · exact .inl (.inl (e _ _ (ne_of h ho (by intro z; cases z)) h))
  · exact .inl (.inr ⟨ob, e _ _ (ne_of h ho (by intro z; cases z)) h⟩)
  · exact .inr h
section
variable {K : PySem.W.Frag} {H H' : Hp} {o : Addr} {xs : List V}
theorem TupI.but {a ns} (e : But o H H') (ho : H o = some (.lst xs)) (h : TupI K H a ns) : TupI K H' a ns := butTup e ho h
theorem DdAt.but {a d} (e : But o H H') (ho : H o = some (.lst xs)) (h : DdAt K H a d) : DdAt K H' a d := by
  obtain ⟨z, rest, h0, h1, h2⟩ := h
  refine ⟨z, rest, h0, butTup e ho h1, ?_⟩
  rcases h2 with ⟨h2, b, h3, h4⟩ | h2
  · exact .inl ⟨h2, b, h3, h4.but e ho⟩
  · exact .inr h2
theorem EvAt.but {a d} (e : But o H H') (ho : H o = some (.lst xs)) (h : EvAt K H a d) : EvAt K H' a d := by
  obtain ⟨p, q, d, r, h1, h2, h3, h4, h5⟩ := h
  exact ⟨p, q, d, r, butTup e ho h1, h2.but e ho, h3.but e ho, h4.but e ho, h5.but e ho⟩
end
/-! ### the names of deeds -/
theorem dn_first {j m : Nat} {z : Str} (h : deedNames[j]? = some z) (hm : m < j) : deedNames[m]? ≠ some z := fun e => by
  have := nd_ix dn_nodup e h
  omega
theorem dn_anew {j : Nat} {z : Str} (h : deedNames[j]? = some z) : z = "anew" ↔ j = 8 := by
  refine ⟨fun e => nd_ix dn_nodup (x := z) h (by rw [e]; rfl), fun e => ?_⟩
  subst e
  exact (Option.some.inj h).symm
theorem dn_note {j : Nat} {z : Str} (h : deedNames[j]? = some z) : z = "note" ↔ j = 0 := by
  refine ⟨fun e => nd_ix dn_nodup (x := z) h (by rw [e]; rfl), fun e => ?_⟩
  subst e
  exact (Option.some.inj h).symm
/-- a def of the text, as it stands behind the top -/
structure Df (K : PySem.W.Frag) (mg : Str → Option Value) (x : Str) (st : Stmt) (ps : List Str) (f : Addr) (fd : FuncData) : Prop where
  F : Fun K x x st f fd
  b : Binds K fd ps []
  m : mg x = some (.ref f)
/-- the built-ins that the text calls are still its own -/
structure Txt (K : PySem.W.Frag) (mg : Str → Option Value) : Prop where
  len : mg "len" = none
  str : mg "str" = none
  int : mg "int" = none
  range : mg "range" = none
  tuple : mg "tuple" = none
  list : mg "list" = none
  isinstance : mg "isinstance" = none
  bool : mg "bool" = none
  all : mg "all" = none
  min : mg "min" = none
  sum : mg "sum" = none
  enumerate : mg "enumerate" = none
/-- the tuple of the deeds' names stands at aD -/
structure Deeds (K : PySem.W.Frag) (mg : Str → Option Value) (aD : Addr) : Prop where
  m : mg "DEEDS" = some (.ref aD)
  o : ∃ ob : Obj, K.lookup aD = some ob ∧ ob.cls = .type "tuple" ∧ ob.dict = none
  sq : ∀ H, SqT K H aD (deedNames.map V.str)

theorem vint_eq {a b : Int} (c : decide (V.int a = V.int b) = true) : a = b := by injection (of_decide_eq_true c)
theorem vint_ne {a b : Int} (c : ¬ decide (V.int a = V.int b) = true) : a ≠ b := fun e => c (decide_eq_true (by rw [e]))
theorem one_of {ns : List Int} (h : ns.length = 1) : ∃ x, ns = [x] := by
  match ns, h with
  | [x], _ => exact ⟨x, rfl⟩
theorem two_of {ns : List Int} (h : ns.length = 2) : ∃ x y, ns = [x, y] := by
  match ns, h with
  | [x, y], _ => exact ⟨x, y, rfl⟩
theorem four_of {ns : List Int} (h : ns.length = 4) : ∃ x y z u, ns = [x, y, z, u] := by
  match ns, h with
  | [x, y, z, u], _ => exact ⟨x, y, z, u, rfl⟩
theorem nt_one {a n : Int} {i : Nat} (h : [a][i]? = some n) (ha : 0 ≤ a) : 0 ≤ n := by
  match i, h with
  | 0, h => cases h; exact ha
theorem nt_two {a b n : Int} {i : Nat} (h : [a, b][i]? = some n) (ha : 0 ≤ a) (hb : 0 ≤ b) : 0 ≤ n := by
  match i, h with
  | 0, h => cases h; exact ha
  | 1, h => cases h; exact hb
theorem nt_three {a b c n : Int} {i : Nat} (h : [a, b, c][i]? = some n) (h2 : ¬ mayNeg 2 i) (ha : 0 ≤ a) (hb : 0 ≤ b) : 0 ≤ n := by
  match i, h with
  | 0, h => cases h; exact ha
  | 1, h => cases h; exact hb
  | 2, h => exact absurd (Or.inl ⟨rfl, rfl⟩) h2
end Vs

namespace Vs
open PySem PySem.Spec PyProof.Rows L2
section
variable {K : PySem.W.Frag} {H H' : Hp}
theorem tyT {a : Addr} {xs : List V} (h : SqT K H a xs) : TyX K H (.ref a) (.type "tuple") := by
  rcases h with (h | ⟨o, h⟩) | ⟨o, its, n, h, hc, _⟩
  · exact .base (.tup h)
  · exact .fTuple h
  · exact .kTuple h hc
theorem tyL {a : Addr} {xs : List V} (h : SqL K H a xs) : TyX K H (.ref a) (.type "list") := by
  rcases h with (h | ⟨o, h⟩) | ⟨o, its, n, h, hc, _⟩
  · exact .base (.lst h)
  · exact .base (.frz h)
  · exact .kList h hc
/-- both denote the same, down to depth n -/
def Sim (K : PySem.W.Frag) (H : Hp) : Nat → V → V → Prop
  | 0, _, _ => False
  | n + 1, x, y => (∃ b, x = .bl b ∧ y = .bl b) ∨ (∃ i, x = .int i ∧ y = .int i) ∨ (∃ z, x = .str z ∧ y = .str z) ∨
    (∃ a b xs ys, x = .ref a ∧ y = .ref b ∧ ((SqT K H a xs ∧ SqT K H b ys) ∨ (SqL K H a xs ∧ SqL K H b ys)) ∧ xs.length = ys.length ∧ xs.length ≤ 1000 ∧ ∀ (i : Nat) u v, xs[i]? = some u → ys[i]? = some v → Sim K H n u v)
theorem Sim.int {n : Nat} {i : Int} : Sim K H (n + 1) (.int i) (.int i) := .inr (.inl ⟨i, rfl, rfl⟩)
theorem Sim.str {n : Nat} {z : Str} : Sim K H (n + 1) (.str z) (.str z) := .inr (.inr (.inl ⟨z, rfl, rfl⟩))
theorem Sim.bl {n : Nat} {b : Bool} : Sim K H (n + 1) (.bl b) (.bl b) := .inl ⟨b, rfl, rfl⟩
theorem Sim.tup {n : Nat} {a b : Addr} {xs ys : List V} (h1 : SqT K H a xs) (h2 : SqT K H b ys) (hl : xs.length = ys.length) (hs : xs.length ≤ 1000) (h : ∀ (i : Nat) u v, xs[i]? = some u → ys[i]? = some v → Sim K H n u v) : Sim K H (n + 1) (.ref a) (.ref b) :=
  .inr (.inr (.inr ⟨a, b, xs, ys, rfl, rfl, .inl ⟨h1, h2⟩, hl, hs, h⟩))
theorem Sim.lst {n : Nat} {a b : Addr} {xs ys : List V} (h1 : SqL K H a xs) (h2 : SqL K H b ys) (hl : xs.length = ys.length) (hs : xs.length ≤ 1000) (h : ∀ (i : Nat) u v, xs[i]? = some u → ys[i]? = some v → Sim K H n u v) : Sim K H (n + 1) (.ref a) (.ref b) :=
  .inr (.inr (.inr ⟨a, b, xs, ys, rfl, rfl, .inr ⟨h1, h2⟩, hl, hs, h⟩))
theorem all_nil {R : V → V → Prop} : ∀ (i : Nat) u v, ([] : List V)[i]? = some u → ([] : List V)[i]? = some v → R u v := fun i u v h => by simp at h
theorem all_cons {R : V → V → Prop} {x y : V} {xs ys : List V} (h : R x y) (t : ∀ (i : Nat) u v, xs[i]? = some u → ys[i]? = some v → R u v) : ∀ (i : Nat) u v, (x :: xs)[i]? = some u → (y :: ys)[i]? = some v → R u v
  | 0, _, _, h1, h2 => by cases h1; cases h2; exact h
  | i + 1, u, v, h1, h2 => t i u v h1 h2
theorem all_ints {n : Nat} {ns : List Int} : ∀ (i : Nat) u v, (ns.map V.int)[i]? = some u → (ns.map V.int)[i]? = some v → Sim K H (n + 1) u v := fun i u v h1 h2 => by
  rw [h1] at h2
  cases h2
  obtain ⟨hi, rfl⟩ := int_get h1
  exact .int
theorem simI {n : Nat} {a b : Addr} {ns : List Int} (h1 : TupI K H a ns) (h2 : TupI K H b ns) (hs : ns.length ≤ 1000) : Sim K H (n + 2) (.ref a) (.ref b) := .tup h1 h2 rfl (by rw [List.length_map]; exact hs) all_ints
theorem simD {n : Nat} {a b : Addr} {d : Dd} (h1 : DdAt K H a d) (h2 : DdAt K H b d) (hk : d.Ok) : Sim K H (n + 3) (.ref a) (.ref b) := by
  have hl := hk.len
  obtain ⟨z, r, e1, t1, q1⟩ := h1
  obtain ⟨z', r', e2, t2, q2⟩ := h2
  rw [e1] at e2
  cases e2
  rcases q1 with ⟨p8, c, rfl, h1⟩ | ⟨n8, rfl⟩
  · rcases q2 with ⟨_, c', rfl, h2⟩ | ⟨n8, _⟩
    · exact .tup t1 t2 rfl (by show 2 ≤ 1000; decide) (all_cons .str (all_cons (simI h1 h2 (by omega)) all_nil))
    · exact absurd p8 n8
  · rcases q2 with ⟨p8, _⟩ | ⟨_, rfl⟩
    · exact absurd p8 n8
    · exact .tup t1 t2 rfl (by rw [List.length_cons, List.length_map]; omega) (all_cons .str all_ints)
theorem simE {n : Nat} {a b : Addr} {e : Ev} (h1 : EvAt K H a e) (h2 : EvAt K H b e) (hk : e.Ok) : Sim K H (n + 4) (.ref a) (.ref b) := by
  have k1 := hk.s1; have k2 := hk.s2; have k3 := hk.s3
  obtain ⟨p, q, d, r, t, f1, f2, f3, f4⟩ := h1
  obtain ⟨p', q', d', r', t', g1, g2, g3, g4⟩ := h2
  exact .tup t t' rfl (by show 5 ≤ 1000; decide) (all_cons .bl (all_cons (simI f1 g1 (by omega)) (all_cons (simI f2 g2 (by omega)) (all_cons (simD f3 g3 hk.d) (all_cons (simI f4 g4 (by omega)) all_nil)))))
theorem simR {n : Nat} {a b : Addr} {r : Rc} (h1 : RcAt K H a r) (h2 : RcAt K H b r) (hk : r.Ok) : Sim K H (n + 5) (.ref a) (.ref b) := by
  obtain ⟨e, t, f⟩ := h1
  obtain ⟨e', t', g⟩ := h2
  exact .tup t t' rfl (by show 3 ≤ 1000; decide) (all_cons .int (all_cons .int (all_cons (simE f g hk.e) all_nil)))
theorem simEach {α : Type} {P : Addr → α → Prop} {n : Nat} {as bs : List Addr} {xs : List α} (h1 : Each P as xs) (h2 : Each P bs xs) (h : ∀ a b x, x ∈ xs → P a x → P b x → Sim K H n (.ref a) (.ref b)) :
    ∀ (i : Nat) u v, (as.map V.ref)[i]? = some u → (bs.map V.ref)[i]? = some v → Sim K H n u v := fun i u v e1 e2 => by
  obtain ⟨i1, rfl⟩ := ref_get e1
  obtain ⟨i2, rfl⟩ := ref_get e2
  have ix : i < xs.length := by rw [← h1.1]; exact i1
  exact h _ _ xs[i] (List.getElem_mem ix) (h1.2 i _ _ (List.getElem?_eq_getElem i1) (List.getElem?_eq_getElem ix)) (h2.2 i _ _ (List.getElem?_eq_getElem i2) (List.getElem?_eq_getElem ix))
theorem simL {n : Nat} {a b : Addr} {l : Lt} (h1 : LtAt K H a l) (h2 : LtAt K H b l) (hk : l.Ok) : Sim K H (n + 7) (.ref a) (.ref b) := by
  have hl := hk.len
  obtain ⟨p, as, t, f, g⟩ := h1
  obtain ⟨p', as', t', f', g'⟩ := h2
  refine .tup t t' rfl (by show 5 ≤ 1000; decide) (all_cons .int (all_cons .int (all_cons .int (all_cons .int (all_cons ?_ all_nil)))))
  exact .tup f f' (by rw [List.length_map, List.length_map, g.1, g'.1]) (by rw [List.length_map, g.1]; omega) (simEach g g' fun a b x hx u v => simR u v (hk.rs x hx))
/-! ### what some calls ask, without the frame -/
abbrev rListOf (K : PySem.W.Frag) : List V → Hp → VK → Prop := fun xs H Q => ∃ p ys, xs = [V.ref p] ∧ (SqL K H p ys ∨ SqT K H p ys) ∧ ∀ l, H l = none → Q (.ref l) (upd H l (.lst ys))
abbrev rTupleOf (K : PySem.W.Frag) : List V → Hp → VK → Prop := fun xs H Q => ∃ p ys, xs = [V.ref p] ∧ ((SqL K H p ys ∧ ∀ l, H l = none → Q (.ref l) (upd H l (.tup ys))) ∨ (SqT K H p ys ∧ Q (.ref p) H))
abbrev rLenOf (K : PySem.W.Frag) : List V → Hp → VK → Prop := fun xs H Q => ∃ p ys, xs = [V.ref p] ∧ (SqL K H p ys ∨ SqT K H p ys) ∧ Q (.int ys.length) H
/-! ### views -/
def RowAt (K : PySem.W.Frag) (H : Hp) (a : Addr) (es : List Ev) : Prop := ∃ as, H a = some (.lst (as.map V.ref)) ∧ Each (EvAt K H) as es
def VwAt (K : PySem.W.Frag) (H : Hp) (v : Addr) (vw : List (List Ev)) : Prop := ∃ rows, H v = some (.lst (rows.map V.ref)) ∧ Each (RowAt K H) rows vw
theorem RowAt.keep {a es} (e : Same H H') (h : RowAt K H a es) : RowAt K H' a es := by
  obtain ⟨as, h1, h2⟩ := h
  exact ⟨as, e _ _ h1, h2.keep fun _ _ z => z.keep e⟩
theorem VwAt.keep {v vw} (e : Same H H') (h : VwAt K H v vw) : VwAt K H' v vw := by
  obtain ⟨as, h1, h2⟩ := h
  exact ⟨as, e _ _ h1, h2.keep fun _ _ z => z.keep e⟩
structure VwOk (vw : List (List Ev)) : Prop where
  len : vw.length ≤ 6
  sum : (vw.map List.length).sum ≤ 40
  ok : ∀ es ∈ vw, ∀ e ∈ es, e.Ok
def numEs (es : List Ev) : List Int := (es.length : Int) :: es.flatMap numE
def numV (vw : List (List Ev)) : List Int := (vw.length : Int) :: vw.flatMap numEs
theorem len_le_sum {vw : List (List Ev)} {es : List Ev} (h : es ∈ vw) : es.length ≤ (vw.map List.length).sum := by
  induction vw with
  | nil => simp at h
  | cons x r ih =>
    rw [List.map_cons, List.sum_cons]
    rcases List.mem_cons.mp h with e | h
    · rw [e]; omega
    · have := ih h; omega
theorem simRow {n : Nat} {a b : Addr} {es : List Ev} (h1 : RowAt K H a es) (h2 : RowAt K H b es) (hl : es.length ≤ 100) (hk : ∀ e ∈ es, e.Ok) : Sim K H (n + 5) (.ref a) (.ref b) := by
  obtain ⟨as, f, g⟩ := h1
  obtain ⟨as', f', g'⟩ := h2
  exact .lst (SqL.of f) (SqL.of f') (by rw [List.length_map, List.length_map, g.1, g'.1]) (by rw [List.length_map, g.1]; omega) (simEach g g' fun a b x hx u v => simE u v (hk x hx))
theorem simV {n : Nat} {a b : Addr} {vw : List (List Ev)} (h1 : VwAt K H a vw) (h2 : VwAt K H b vw) (hk : VwOk vw) : Sim K H (n + 6) (.ref a) (.ref b) := by
  have hl := hk.len
  have hs := hk.sum
  obtain ⟨as, f, g⟩ := h1
  obtain ⟨as', f', g'⟩ := h2
  exact .lst (SqL.of f) (SqL.of f') (by rw [List.length_map, List.length_map, g.1, g'.1]) (by rw [List.length_map, g.1]; omega) (simEach g g' fun a b x hx u v => simRow u v (by have := len_le_sum hx; omega) (hk.ok x hx))
end
theorem numV_len_le {vw : List (List Ev)} (h : ∀ es ∈ vw, ∀ e ∈ es, e.Ok) : (vw.flatMap numEs).length ≤ vw.length + (vw.map List.length).sum * 24 := by
  induction vw with
  | nil => exact Nat.zero_le _
  | cons x r ih =>
    have h1 := ih fun es hes => h es (List.mem_cons_of_mem _ hes)
    have h2 := flat_len (f := numE) (m := 24) (xs := x) fun e he => numE_len (h x List.mem_cons_self e he)
    rw [List.flatMap_cons, List.length_append, List.map_cons, List.sum_cons, List.length_cons]
    show ((x.length : Int) :: x.flatMap numE).length + _ ≤ _
    rw [List.length_cons]
    omega
theorem numV_len {vw : List (List Ev)} (h : VwOk vw) : (numV vw).length ≤ 967 := by
  have h1 := numV_len_le h.ok
  have h2 := h.len
  have h3 := h.sum
  unfold numV
  rw [List.length_cons]
  omega
theorem numEs_in {es : List Ev} (hl : es.length ≤ 100) (h : ∀ e ∈ es, e.Ok) : ∀ n ∈ numEs es, In18 n := by
  intro n hn
  unfold numEs at hn
  rcases List.mem_cons.mp hn with e | hn
  · rw [e]; exact In18.small (by omega)
  · obtain ⟨e, he, hn⟩ := List.mem_flatMap.mp hn
    exact numE_in (h e he) n hn
theorem numV_in {vw : List (List Ev)} (h : VwOk vw) : ∀ n ∈ numV vw, In18 n := by
  intro n hn
  have h2 := h.len
  have h3 := h.sum
  unfold numV at hn
  rcases List.mem_cons.mp hn with e | hn
  · rw [e]; exact In18.small (by omega)
  · obtain ⟨es, he, hn⟩ := List.mem_flatMap.mp hn
    exact numEs_in (by have := len_le_sum he; omega) (h.ok es he) n hn
theorem flat_take_le {α : Type} {f : α → List Int} {xs : List α} (i : Nat) : ((xs.take i).flatMap f).length ≤ (xs.flatMap f).length := by
  rw [show xs.flatMap f = (xs.take i).flatMap f ++ (xs.drop i).flatMap f by rw [← List.flatMap_append, List.take_append_drop], List.length_append]
  omega
theorem flat_take {α : Type} {f : α → List Int} {xs : List α} {i : Nat} {x : α} (h : xs[i]? = some x) : (xs.take (i + 1)).flatMap f = (xs.take i).flatMap f ++ f x := by
  rw [List.take_add_one, h, List.flatMap_append]
  show _ ++ (f x ++ []) = _
  rw [List.append_nil]
theorem flat_take_len {α : Type} {f : α → List Int} {m : Nat} {xs : List α} (h : ∀ x ∈ xs, (f x).length ≤ m) (i : Nat) : ((xs.take i).flatMap f).length ≤ i * m := by
  have h1 := flat_len (f := f) (m := m) (xs := xs.take i) fun x hx => h x (List.mem_of_mem_take hx)
  have h2 : (xs.take i).length ≤ i := by rw [List.length_take]; omega
  exact Nat.le_trans h1 (Nat.mul_le_mul_right m h2)
theorem sum_grow {vw : List (List Ev)} {j : Nat} {es : List Ev} {e : Ev} (h : vw[j]? = some es) : ((vw.set j (es ++ [e])).map List.length).sum = (vw.map List.length).sum + 1 := by
  induction vw generalizing j with
  | nil => simp at h
  | cons x r ih =>
    cases j with
    | zero =>
      cases h
      show (es ++ [e]).length + (r.map List.length).sum = es.length + (r.map List.length).sum + 1
      rw [List.length_append, List.length_singleton]
      omega
    | succ j =>
      show x.length + ((r.set j (es ++ [e])).map List.length).sum = x.length + (r.map List.length).sum + 1
      rw [ih h]
      omega
theorem cut1 (xs : List V) : cutV xs (some 1) none = xs.drop 1 := by
  unfold cutV
  rw [show HT.sIx xs.length 0 (some 1) = min 1 xs.length from HT.sIx_nat xs.length 0 1, HT.sIx_none]
  cases xs with
  | nil => rfl
  | cons x r =>
    rw [show min 1 (x :: r).length = 1 by rw [List.length_cons]; omega]
    show (List.take ((x :: r).length - 1) r) = r
    rw [List.length_cons, Nat.add_sub_cancel]
    exact List.take_length
def headL (l : Lt) : List Int := [l.s, l.r, l.k, l.n, (l.recs.length : Int)]
end Vs

namespace Vs
open PySem PySem.Spec PyProof.Rows L2
/-! ### the words of a text -/
abbrev wd (n : Int) : Str := Str.ofString (toString n)
theorem tl_pos {n : Int} (h : 0 ≤ n) : TL.tl (wd n) = TL.numL n.natAbs := by
  have e : n = ((n.natAbs : Nat) : Int) := by omega
  unfold wd
  rw [e, TL.tl_num]
  rfl
theorem tl_neg {n : Int} (h : n < 0) : TL.tl (wd n) = 45 :: TL.numL n.natAbs := by
  have e : (0 : Int) - n = ((n.natAbs : Nat) : Int) := by omega
  unfold wd
  rw [PyProof.Rows.toString_neg h, e]
  have q := TL.tl_num n.natAbs
  rw [TL.tl_ofString] at q ⊢
  rw [String.toList_append, List.map_append, q]
  rfl
theorem In18.numL {n : Int} (h : In18 n) : (TL.numL n.natAbs).length ≤ 18 := TL.numL_len (by decide) h
theorem wd_free {n : Int} {s : Nat} (h : s < 48 ∨ 57 < s) (h2 : s ≠ 45) : s ∉ TL.tl (wd n) := by
  by_cases h0 : 0 ≤ n
  · rw [tl_pos h0]
    exact TL.numL_free h
  · rw [tl_neg (by omega)]
    intro hm
    rcases List.mem_cons.mp hm with e | hm
    · exact h2 e
    · exact TL.numL_free h hm
theorem wd_int {n : Int} (h : In18 n) : intText? (wd n) = some n := by
  have hl := h.numL
  by_cases h0 : 0 ≤ n
  · have e := TL.int_num (n := n.natAbs) (by omega)
    have e2 : ((n.natAbs : Nat) : Int) = n := by omega
    rw [e2] at e
    exact e
  · have t := tl_neg (n := n) (by omega)
    have e := intText_neg (x := wd n) (cs := TL.numL n.natAbs) t (TL.numL_digits _) (TL.numL_ne _) (by rw [TL.len_tl, t, List.length_cons]; omega)
    rw [TL.numL_val] at e
    rw [e]
    congr 1
    omega
/-- the digits of the word -/
def dg (n : Int) : Str := ⟨(TL.numL n.natAbs).toArray⟩
theorem dash_tl : TL.tl (Str.ofString "-") = [45] := by decide +kernel
theorem beqD (a b : List Nat) : (a == b) = decide (a = b) := by
  by_cases h : a = b
  · rw [h, decide_eq_true rfl, beq_self_eq_true]
  · rw [decide_eq_false h, beq_false_of_ne h]
theorem rmdash (x : Str) : TL.tl (Txt.removeprefix x (Str.ofString "-")) = if (TL.tl x).take 1 = [45] then (TL.tl x).drop 1 else TL.tl x := by
  have hl : (Str.ofString "-").length = 1 := by decide +kernel
  unfold Txt.removeprefix
  have hs : Builtin.Str.subAt x (Str.ofString "-") 0 = decide ((TL.tl x).take 1 = [45]) := by
    rw [StrLaws.subAt_eq, hl, show (Str.ofString "-").cps.toList = [45] from dash_tl, List.drop_zero]
    exact beqD _ _
  by_cases h : (TL.tl x).take 1 = [45]
  · rw [hs, decide_eq_true h, if_pos rfl, if_pos h, hl]
    have h1 : 1 ≤ x.length := by
      rw [TL.len_tl]
      cases e : TL.tl x with
      | nil => rw [e] at h; cases h
      | cons a r => rw [List.length_cons]; omega
    unfold Txt.affix
    show TL.tl (if (x.length - 1 == x.length) = true then x else _) = _
    rw [if_neg (by rw [beq_iff_eq]; omega)]
    exact TL.tl_strSub_end x 1
  · rw [hs, decide_eq_false h, if_neg Bool.false_ne_true, if_neg h]
    rfl
theorem zero_tl : TL.tl (Str.ofString "0") = [48] := by decide +kernel
theorem starts0 (x : Str) : Txt.startswith x (Str.ofString "0") = decide ((TL.tl x).take 1 = [48]) := by
  have hl : (Str.ofString "0").length = 1 := by decide +kernel
  unfold Txt.startswith
  rw [StrLaws.subAt_eq, hl, show (Str.ofString "0").cps.toList = [48] from zero_tl, List.drop_zero]
  have e : ((TL.tl x).take 1 == [48]) = decide ((TL.tl x).take 1 = [48]) := beqD _ _
  rw [show List.take 1 x.cps.toList = (TL.tl x).take 1 from rfl, e]
  by_cases h : (TL.tl x).take 1 = [48]
  · have h1 : 1 ≤ x.length := by
      rw [TL.len_tl]
      cases e : TL.tl x with
      | nil => rw [e] at h; cases h
      | cons a r => rw [List.length_cons]; omega
    rw [decide_eq_true h, decide_eq_true (by omega : 0 + 1 ≤ x.length)]
    rfl
  · rw [decide_eq_false h, Bool.and_false]
theorem digit_ascii : ∀ c : Nat, c < 128 → Unicode.isDigit c = (decide (48 ≤ c) && decide (c ≤ 57)) := by decide +kernel
theorem numL_lead {n : Nat} (h : 0 < n) : (TL.numL n).take 1 ≠ [48] := by
  induction n using Nat.strongRecOn with
  | _ n ih =>
    by_cases h1 : n < 10
    · rw [TL.numL_lt h1]
      intro e
      have := List.cons.inj e
      omega
    · rw [TL.numL_step (by omega)]
      have h2 := ih (n / 10) (by omega) (by omega)
      have h3 := TL.numL_ne (n / 10)
      rw [List.take_append_of_le_length (by cases e : TL.numL (n / 10) with | nil => exact absurd e h3 | cons a r => rw [List.length_cons]; omega)]
      exact h2
/-- what is_integer tells of a word -/
def isIntW (z : Str) (m : Int) : Bool :=
  if (!(Txt.isascii (Txt.removeprefix z (Str.ofString "-")) && Txt.isdigit (Txt.removeprefix z (Str.ofString "-"))) || decide (((Txt.removeprefix z (Str.ofString "-")).length : Int) > m)) = true then false
  else (decide (z = Str.ofString "0") || !Txt.startswith (Txt.removeprefix z (Str.ofString "-")) (Str.ofString "0"))
theorem ascii_of {x : Str} (h : NumText.AllDigits (TL.tl x)) (hn : TL.tl x ≠ []) : Txt.isascii x = true ∧ Txt.isdigit x = true := by
  have e1 : x.cps.all (fun c => decide (c < 128)) = (TL.tl x).all (fun c => decide (c < 128)) := (Array.all_toList ..).symm
  have e2 : x.cps.all Unicode.isDigit = (TL.tl x).all Unicode.isDigit := (Array.all_toList ..).symm
  refine ⟨?_, ?_⟩
  · show x.cps.all (fun c => decide (c < 128)) = true
    rw [e1, List.all_eq_true]
    intro c hc
    have := h c hc
    exact decide_eq_true (by omega)
  · unfold Txt.isdigit
    rw [e2, Bool.and_eq_true]
    refine ⟨decide_eq_true (by rw [TL.len_tl]; exact List.length_pos_iff.mpr hn), ?_⟩
    rw [List.all_eq_true]
    intro c hc
    have h1 := h c hc
    rw [digit_ascii c (by omega), decide_eq_true h1.1, decide_eq_true h1.2]
    rfl
theorem wd_digits {n : Int} : TL.tl (Txt.removeprefix (wd n) (Str.ofString "-")) = TL.numL n.natAbs := by
  rw [rmdash]
  by_cases h0 : 0 ≤ n
  · rw [tl_pos h0, if_neg]
    intro e
    have h1 : 45 ∈ TL.numL n.natAbs := List.mem_of_mem_take (by rw [e]; exact List.mem_singleton_self 45)
    exact TL.numL_free (by omega) h1
  · rw [tl_neg (by omega), if_pos (by rfl)]
    rfl
theorem wd_zero : wd 0 = Str.ofString "0" := by decide +kernel
theorem wd_isInt {n m : Int} (h : In18 n) (hm : 18 ≤ m) : isIntW (wd n) m = true := by
  have hd := wd_digits (n := n)
  have hl := h.numL
  have ha := ascii_of (x := Txt.removeprefix (wd n) (Str.ofString "-")) (by rw [hd]; exact TL.numL_digits _) (by rw [hd]; exact TL.numL_ne _)
  unfold isIntW
  rw [ha.1, ha.2, decide_eq_false (by rw [TL.len_tl, hd]; omega)]
  show (decide (wd n = Str.ofString "0") || _) = true
  by_cases h0 : n = 0
  · rw [h0, decide_eq_true wd_zero]
    rfl
  · rw [starts0, hd, decide_eq_false (numL_lead (by omega))]
    exact Bool.or_true _
theorem wd_len {n : Int} (h : In18 n) : (wd n).length ≤ 19 := word_len h
/-! ### the lines and words of a text -/
theorem nl_tl : TL.tl (Str.ofString "\n") = [10] := by decide +kernel
theorem blank_tl : TL.tl (Str.ofString " ") = [32] := by decide +kernel
theorem joinL_free {s : Nat} {S : List Nat} (hs : s ∉ S) : ∀ {ps : List (List Nat)}, (∀ p ∈ ps, s ∉ p) → s ∉ TL.joinL S ps
  | [], _ => by show s ∉ ([] : List Nat); simp
  | [p], h => h p List.mem_cons_self
  | p :: q :: r, h => by
    have h1 := joinL_free hs (ps := q :: r) fun z hz => h z (List.mem_cons_of_mem _ hz)
    intro hm
    rcases List.mem_append.mp hm with hm | hm
    · exact h p List.mem_cons_self hm
    · rcases List.mem_append.mp hm with hm | hm
      · exact hs hm
      · exact h1 hm
theorem joined_free {ns : List Int} : (10 : Nat) ∉ TL.tl (Txt.join (Str.ofString " ") (words ns)) := by
  rw [TL.join_eq, TL.tl_join]
  refine joinL_free (by rw [blank_tl]; decide) fun p hp => ?_
  obtain ⟨z, hz, rfl⟩ := List.mem_map.mp hp
  obtain ⟨n, _, rfl⟩ := List.mem_map.mp hz
  exact wd_free (n := n) (by omega) (by omega)
theorem text_join (hd : Str) (ns : List Int) : textOf hd ns = Txt.join (Str.ofString "\n") [hd, Txt.join (Str.ofString " ") (words ns), Str.ofString ""] := by
  apply TL.ext_tl
  rw [TL.join_eq, TL.tl_join]
  unfold textOf
  rw [TL.tl_append, TL.tl_append, TL.tl_append]
  show _ = TL.tl hd ++ (TL.tl (Str.ofString "\n") ++ (TL.tl (Txt.join (Str.ofString " ") (words ns)) ++ (TL.tl (Str.ofString "\n") ++ [])))
  simp only [List.append_assoc, List.append_nil]
theorem text_split {hd : Str} {ns : List Int} (h : (10 : Nat) ∉ TL.tl hd) : Txt.split (textOf hd ns) (Str.ofString "\n") = [hd, Txt.join (Str.ofString " ") (words ns), Str.ofString ""] := by
  rw [text_join]
  refine TL.split_join (s := 10) (S := []) nl_tl (by decide +kernel) (by simp) fun p hp => ?_
  simp only [List.mem_cons, List.not_mem_nil, or_false] at hp
  rcases hp with rfl | rfl | rfl
  · exact h
  · exact joined_free
  · decide +kernel
theorem words_split {ns : List Int} (h : ns ≠ []) : Txt.split (Txt.join (Str.ofString " ") (words ns)) (Str.ofString " ") = words ns := by
  refine TL.split_join (s := 32) (S := []) blank_tl (by decide +kernel) (by unfold words; simpa using h) fun p hp => ?_
  obtain ⟨n, _, rfl⟩ := List.mem_map.mp hp
  exact wd_free (n := n) (by omega) (by omega)
theorem text_len {hd : Str} {ns : List Int} (h : ∀ n ∈ ns, In18 n) : (textOf hd ns).length ≤ hd.length + ns.length * 20 + 2 := by
  have h1 := joined_len h
  unfold textOf
  rw [Str.length_append, Str.length_append, Str.length_append, nl_len]
  omega
/-! ### methods of a class -/
structure Mt (K : PySem.W.Frag) (C : Addr) (x qual : Str) (st : Stmt) (ps : List Str) (f : Addr) (fd : FuncData) : Prop where
  F : Fun K x qual st f fd
  b : Binds K fd ps []
  m : Meth K C x f
/-! ### a Taker -/
structure Tk (K : PySem.W.Frag) (mg : Str → Option Value) (C : Addr) : Prop where
  cl : Cls K C
  nI : NoAttr K C "integers"
  nT : NoAttr K C "taken"
  mg : mg "Taker" = some (.ref C)
theorem kit : ¬ (("integers" : Str) = "taken") := by decide +kernel
/-- its attributes -/
def tf (l : Addr) (i : Int) : List (Str × V) := putF "taken" (.int i) (putF "integers" (.ref l) [])
theorem tf_eq (l : Addr) (i : Int) : tf l i = ([("integers", V.ref l), ("taken", V.int i)] : List (Str × V)) := by
  show (if ("integers" : Str) = "taken" then [(("integers" : Str), V.int i)] else (("integers" : Str), V.ref l) :: putF "taken" (V.int i) []) = ([("integers", V.ref l), ("taken", V.int i)] : List (Str × V))
  rw [if_neg kit]
  rfl
theorem tf_int (l : Addr) (i : Int) : (tf l i).lookup ("integers" : Str) = some (.ref l) := by
  unfold tf
  rw [lookup_putF, if_neg kit, lookup_putF, if_pos rfl]
theorem tf_tak (l : Addr) (i : Int) : (tf l i).lookup ("taken" : Str) = some (.int i) := by
  unfold tf
  rw [lookup_putF, if_pos rfl]
theorem tf_no (l : Addr) (i : Int) {m : Str} (h1 : ¬ m = "taken") (h2 : ¬ m = "integers") : (tf l i).lookup m = none := by
  unfold tf
  rw [lookup_putF, if_neg h1, lookup_putF, if_neg h2]
  rfl
theorem tf_put (l : Addr) (i j : Int) : putF "taken" (.int j) (tf l i) = tf l j := by
  rw [tf_eq, tf_eq]
  show (if ("integers" : Str) = "taken" then _ else (("integers" : Str), V.ref l) :: (if ("taken" : Str) = "taken" then [(("taken" : Str), V.int j)] else _)) = ([("integers", V.ref l), ("taken", V.int j)] : List (Str × V))
  rw [if_neg kit, if_pos rfl]
/-- a Taker at p, its list at l, with these integers left -/
def TkAt (C : Addr) (H : Hp) (p l : Addr) (rest : List Int) : Prop := ∃ (dx : Addr) (ns : List Int) (i : Nat), H p = some (.ins C dx (tf l (i : Int))) ∧ H l = some (.lst (ns.map V.int)) ∧ i ≤ ns.length ∧ ns.length ≤ 1000 ∧ ns.drop i = rest
theorem TkAt.keep {C : Addr} {H H' : Hp} {p l : Addr} {rest : List Int} (e : Same H H') (h : TkAt C H p l rest) : TkAt C H' p l rest := by
  obtain ⟨dx, ns, i, h1, h2, h3⟩ := h
  exact ⟨dx, ns, i, e _ _ h1, e _ _ h2, h3⟩
theorem TkAt.but {C o : Addr} {H H' : Hp} {p l : Addr} {rest : List Int} (e : But o H H') (hp : o ≠ p) (hl : o ≠ l) (h : TkAt C H p l rest) : TkAt C H' p l rest := by
  obtain ⟨dx, ns, i, h1, h2, h3⟩ := h
  exact ⟨dx, ns, i, e _ _ hp.symm h1, e _ _ hl.symm h2, h3⟩
theorem TkAt.len {C : Addr} {H : Hp} {p l : Addr} {rest : List Int} (h : TkAt C H p l rest) : rest.length ≤ 1000 := by
  obtain ⟨dx, ns, i, h1, h2, h3, h4, rfl⟩ := h
  rw [List.length_drop]
  omega
/-! ### what stands while an instance changes -/
theorem insTup {C dx : Addr} {fs : List (Str × V)} {K : PySem.W.Frag} {H H' : Hp} {o a : Addr} {ys : List V} (e : But o H H') (ho : H o = some (.ins C dx fs)) (h : SqT K H a ys) : SqT K H' a ys := by
  rcases h with (h | ⟨ob, h⟩) | h
  · exact .inl (.inl (e _ _ (ne_of h ho (by intro z; cases z)) h))
  · exact .inl (.inr ⟨ob, e _ _ (ne_of h ho (by intro z; cases z)) h⟩)
  · exact .inr h
section
variable {K : PySem.W.Frag} {H H' : Hp} {o : Addr} {C dx : Addr} {fs : List (Str × V)}
theorem TupI.ins {a ns} (e : But o H H') (ho : H o = some (.ins C dx fs)) (h : TupI K H a ns) : TupI K H' a ns := insTup e ho h
theorem DdAt.ins {a d} (e : But o H H') (ho : H o = some (.ins C dx fs)) (h : DdAt K H a d) : DdAt K H' a d := by
  obtain ⟨z, rest, h0, h1, h2⟩ := h
  refine ⟨z, rest, h0, insTup e ho h1, ?_⟩
  rcases h2 with ⟨h2, b, h3, h4⟩ | h2
  · exact .inl ⟨h2, b, h3, h4.ins e ho⟩
  · exact .inr h2
theorem EvAt.ins {a d} (e : But o H H') (ho : H o = some (.ins C dx fs)) (h : EvAt K H a d) : EvAt K H' a d := by
  obtain ⟨p, q, d, r, h1, h2, h3, h4, h5⟩ := h
  exact ⟨p, q, d, r, insTup e ho h1, h2.ins e ho, h3.ins e ho, h4.ins e ho, h5.ins e ho⟩
theorem RcAt.ins {a d} (e : But o H H') (ho : H o = some (.ins C dx fs)) (h : RcAt K H a d) : RcAt K H' a d := by
  obtain ⟨p, h1, h2⟩ := h
  exact ⟨p, insTup e ho h1, h2.ins e ho⟩
theorem RcAt.but {xs : List V} {a d} (e : But o H H') (ho : H o = some (.lst xs)) (h : RcAt K H a d) : RcAt K H' a d := by
  obtain ⟨p, h1, h2⟩ := h
  exact ⟨p, butTup e ho h1, h2.but e ho⟩
end
theorem inTk {C p l : Addr} {H : Hp} {rs : List Int} (h : TkAt C H p l rs) : ∃ dx i, H p = some (.ins C dx (tf l i)) := by
  obtain ⟨dx, _, i, h, _⟩ := h
  exact ⟨dx, _, h⟩
theorem lsTk {C p l : Addr} {H : Hp} {rs : List Int} (h : TkAt C H p l rs) : ∃ xs, H l = some (.lst xs) := by
  obtain ⟨dx, _, i, _, h, _⟩ := h
  exact ⟨_, h⟩
theorem evs_len_le : ∀ rs : List Ev, rs.length ≤ (rs.flatMap numE).length
  | [] => Nat.zero_le _
  | a :: r => by
    have ih := evs_len_le r
    rw [List.flatMap_cons, List.length_append, List.length_cons]
    have : 1 ≤ (numE a).length := by unfold numE; simp only [List.length_append, List.length_cons]; omega
    omega
theorem rows_len_le : ∀ rs : List (List Ev), rs.length ≤ (rs.flatMap numEs).length
  | [] => Nat.zero_le _
  | a :: r => by
    have ih := rows_len_le r
    rw [List.flatMap_cons, List.length_append, List.length_cons]
    have : 1 ≤ (numEs a).length := by unfold numEs; rw [List.length_cons]; omega
    omega
end Vs

namespace Vs
open PySem PySem.Spec PyProof.Rows L2
/-! ### == and != of data, whatever its texts -/
section
variable {X : Cx}
def rEqP (K : PySem.W.Frag) : R2 := fun x y H Q => ∃ d e, Dp K H x d ∧ Dp K H y e ∧ d.plain = true ∧ e.plain = true ∧ d.depth ≤ 64 ∧ Q (.bl (PyData.eqv d e)) H
def rNeP (K : PySem.W.Frag) : R2 := fun x y H Q => ∃ d e, Dp K H x d ∧ Dp K H y e ∧ d.plain = true ∧ e.plain = true ∧ d.depth ≤ 64 ∧ Q (.bl (!PyData.eqv d e)) H
theorem op_eqP (hu : X.A.units + 64 < cLine) : OpR X (compareOp .Eq) (rEqP X.K) := by
  intro pins s σ H x y v u Q I rx ry h
  obtain ⟨d, e, hd, he, sd, se, hz, q⟩ := h
  obtain ⟨as, r1⟩ := Dp.reads I d x v hd rx
  obtain ⟨bs, r2⟩ := Dp.reads I e y u he ry
  exact SeqAt.eq_plain r1 r2 sd se (Nat.lt_of_le_of_lt (Nat.add_le_add_left (Nat.le_trans (Nat.min_le_left _ _) hz) _) hu) ⟨.bl _, H, I, rfl, q⟩
theorem op_neP (hu : X.A.units + 64 < cLine) : OpR X (compareOp .NotEq) (rNeP X.K) := by
  intro pins s σ H x y v u Q I rx ry h
  obtain ⟨d, e, hd, he, sd, se, hz, q⟩ := h
  obtain ⟨as, r1⟩ := Dp.reads I d x v hd rx
  obtain ⟨bs, r2⟩ := Dp.reads I e y u he ry
  exact SeqAt.ne_plain r1 r2 sd se (Nat.lt_of_le_of_lt (Nat.add_le_add_left (Nat.le_trans (Nat.min_le_left _ _) hz) _) hu) ⟨.bl _, H, I, rfl, q⟩
end
theorem strs_all {K : PySem.W.Frag} {H : Hp} : ∀ ss : List Str, DpAll K H (ss.map V.str) (ss.map PyData.str)
  | [] => .nil
  | s :: r => .cons (.str s) (strs_all r)
theorem strs_dp {K : PySem.W.Frag} {H : Hp} {a : Addr} {ss : List Str} (h : SqL K H a (ss.map V.str)) : Dp K H (.ref a) (.list (ss.map PyData.str)) := .lst h (strs_all ss)
theorem strs_plain : ∀ ss : List Str, PyData.plainAll (ss.map PyData.str) = true
  | [] => rfl
  | s :: r => by
    show (true && PyData.plainAll (r.map PyData.str)) = true
    rw [strs_plain r]
    rfl
theorem strs_depth : ∀ ss : List Str, PyData.depthAll (ss.map PyData.str) ≤ 1
  | [] => Nat.zero_le _
  | s :: r => by
    show max (PyData.depth (PyData.str s)) (PyData.depthAll (r.map PyData.str)) ≤ 1
    have := strs_depth r
    have h : PyData.depth (PyData.str s) ≤ 1 := by simp [PyData.depth]
    omega
theorem strl_plain (ss : List Str) : (PyData.list (ss.map PyData.str)).plain = true := strs_plain ss
theorem strl_depth (ss : List Str) : (PyData.list (ss.map PyData.str)).depth ≤ 64 := by
  have := strs_depth ss
  simp only [PyData.depth]
  omega
end Vs

namespace Vs
open PySem PySem.Spec PyProof.Rows L2
/-! ### data, and when two of them are the same to the sign -/
inductive DV where
  | bl (b : Bool)
  | int (i : Int)
  | str (z : Str)
  | tup (xs : List DV)
  | lst (xs : List DV)
mutual
def sameV : DV → DV → Bool
  | .bl a, .bl b => a == b
  | .int a, .int b => a == b
  | .str a, .str b => a == b
  | .tup xs, .tup ys => sameVL xs ys
  | .lst xs, .lst ys => sameVL xs ys
  | .bl _, .int _ | .bl _, .str _ | .bl _, .tup _ | .bl _, .lst _ => false
  | .int _, .bl _ | .int _, .str _ | .int _, .tup _ | .int _, .lst _ => false
  | .str _, .bl _ | .str _, .int _ | .str _, .tup _ | .str _, .lst _ => false
  | .tup _, .bl _ | .tup _, .int _ | .tup _, .str _ | .tup _, .lst _ => false
  | .lst _, .bl _ | .lst _, .int _ | .lst _, .str _ | .lst _, .tup _ => false
def sameVL : List DV → List DV → Bool
  | [], [] => true
  | x :: xs, y :: ys => sameV x y && sameVL xs ys
  | [], _ :: _ => false
  | _ :: _, [] => false
end
mutual
def depV : DV → Nat
  | .tup xs | .lst xs => depVL xs + 1
  | .bl _ | .int _ | .str _ => 1
def depVL : List DV → Nat
  | [] => 0
  | x :: xs => max (depV x) (depVL xs)
end
mutual
def Den (K : PySem.W.Frag) (H : Hp) : DV → V → Prop
  | .bl b, v => v = .bl b
  | .int i, v => v = .int i
  | .str z, v => v = .str z
  | .tup xs, v => ∃ a vs, v = .ref a ∧ SqT K H a vs ∧ vs.length ≤ 1000 ∧ DenL K H xs vs
  | .lst xs, v => ∃ a vs, v = .ref a ∧ SqL K H a vs ∧ vs.length ≤ 1000 ∧ DenL K H xs vs
def DenL (K : PySem.W.Frag) (H : Hp) : List DV → List V → Prop
  | [], vs => vs = []
  | d :: ds, vs => ∃ v r, vs = v :: r ∧ Den K H d v ∧ DenL K H ds r
end
mutual
theorem sameV_eq : ∀ d e : DV, sameV d e = true → d = e
  | .bl a, .bl b, h => by simp [sameV] at h; rw [h]
  | .int a, .int b, h => by simp [sameV] at h; rw [h]
  | .str a, .str b, h => by simp [sameV] at h; rw [h]
  | .tup xs, .tup ys, h => by rw [sameVL_eq xs ys (by simpa [sameV] using h)]
  | .lst xs, .lst ys, h => by rw [sameVL_eq xs ys (by simpa [sameV] using h)]
  | .bl _, .int _, h | .bl _, .str _, h | .bl _, .tup _, h | .bl _, .lst _, h => by simp [sameV] at h
  | .int _, .bl _, h | .int _, .str _, h | .int _, .tup _, h | .int _, .lst _, h => by simp [sameV] at h
  | .str _, .bl _, h | .str _, .int _, h | .str _, .tup _, h | .str _, .lst _, h => by simp [sameV] at h
  | .tup _, .bl _, h | .tup _, .int _, h | .tup _, .str _, h | .tup _, .lst _, h => by simp [sameV] at h
  | .lst _, .bl _, h | .lst _, .int _, h | .lst _, .str _, h | .lst _, .tup _, h => by simp [sameV] at h
theorem sameVL_eq : ∀ d e : List DV, sameVL d e = true → d = e
  | [], [], _ => rfl
  | x :: xs, y :: ys, h => by
    have h' : sameV x y = true ∧ sameVL xs ys = true := by simpa [sameVL] using h
    rw [sameV_eq x y h'.1, sameVL_eq xs ys h'.2]
  | [], _ :: _, h => by simp [sameVL] at h
  | _ :: _, [], h => by simp [sameVL] at h
end
mutual
theorem sameV_refl : ∀ d : DV, sameV d d = true
  | .bl a => by simp [sameV]
  | .int a => by simp [sameV]
  | .str a => by simp [sameV]
  | .tup xs => by rw [sameV]; exact sameVL_refl xs
  | .lst xs => by rw [sameV]; exact sameVL_refl xs
theorem sameVL_refl : ∀ d : List DV, sameVL d d = true
  | [] => by simp [sameVL]
  | x :: xs => by rw [sameVL, sameV_refl x, sameVL_refl xs]; rfl
end
theorem sameVL_at : ∀ {xs ys : List DV}, xs.length = ys.length → (∀ (i : Nat) x y, xs[i]? = some x → ys[i]? = some y → sameV x y = true) → sameVL xs ys = true
  | [], [], _, _ => by simp [sameVL]
  | x :: xs, y :: ys, hl, h => by
    rw [sameVL, h 0 x y rfl rfl, sameVL_at (Nat.succ.inj hl) fun i u v h1 h2 => h (i + 1) u v h1 h2]
    rfl
theorem sameVL_len : ∀ {xs ys : List DV}, xs.length ≠ ys.length → sameVL xs ys = false
  | [], [], h => absurd rfl h
  | x :: xs, y :: ys, h => by
    rw [sameVL, sameVL_len fun e => h (by rw [List.length_cons, List.length_cons, e]), Bool.and_false]
  | [], _ :: _, _ => by simp [sameVL]
  | _ :: _, [], _ => by simp [sameVL]
theorem sameVL_no : ∀ {xs ys : List DV} {i : Nat} {x y : DV}, xs[i]? = some x → ys[i]? = some y → sameV x y = false → sameVL xs ys = false
  | x :: xs, y :: ys, 0, _, _, h1, h2, h => by
    cases h1
    cases h2
    rw [sameVL, h]
    rfl
  | x :: xs, y :: ys, i + 1, u, v, h1, h2, h => by
    rw [sameVL, sameVL_no (i := i) h1 h2 h, Bool.and_false]
  | [], _, _, _, _, h1, _, _ => by simp at h1
  | _ :: _, [], _, _, _, _, h2, _ => by simp at h2
theorem depVL_at : ∀ {xs : List DV} {i : Nat} {x : DV}, xs[i]? = some x → depV x ≤ depVL xs
  | x :: xs, 0, _, h => by cases h; rw [depVL]; omega
  | x :: xs, i + 1, u, h => by
    have := depVL_at (xs := xs) (i := i) h
    rw [depVL]
    omega
  | [], _, _, h => by simp at h
section
variable {K : PySem.W.Frag} {H H' : Hp}
theorem DenL.len : ∀ {ds : List DV} {vs : List V}, DenL K H ds vs → vs.length = ds.length
  | [], _, h => by rw [DenL] at h; rw [h]; rfl
  | d :: ds, _, h => by
    rw [DenL] at h
    obtain ⟨v, r, rfl, _, h2⟩ := h
    rw [List.length_cons, List.length_cons, DenL.len h2]
theorem DenL.get : ∀ {ds : List DV} {vs : List V} {i : Nat} {d : DV}, DenL K H ds vs → ds[i]? = some d → ∃ v, vs[i]? = some v ∧ Den K H d v
  | d :: ds, _, 0, _, h, hi => by
    rw [DenL] at h
    obtain ⟨v, r, rfl, h1, _⟩ := h
    cases hi
    exact ⟨v, rfl, h1⟩
  | d :: ds, _, i + 1, e, h, hi => by
    rw [DenL] at h
    obtain ⟨v, r, rfl, _, h2⟩ := h
    exact DenL.get (i := i) h2 hi
  | [], _, _, _, _, hi => by simp at hi
theorem DenL.ints : ∀ {ns : List Int}, DenL K H (ns.map DV.int) (ns.map V.int)
  | [] => by rw [List.map_nil, DenL]; rfl
  | n :: r => by
    rw [List.map_cons, DenL]
    exact ⟨_, _, rfl, by rw [Den], DenL.ints⟩
theorem DenL.refs {α : Type} {P : Addr → α → Prop} {f : α → DV} (h : ∀ a x, P a x → Den K H (f x) (.ref a)) : ∀ {as : List Addr} {xs : List α}, Each P as xs → DenL K H (xs.map f) (as.map V.ref)
  | [], [], _ => by rw [List.map_nil, DenL]; rfl
  | a :: as, x :: xs, e => by
    rw [List.map_cons, DenL]
    exact ⟨_, _, rfl, h a x (e.2 0 a x rfl rfl), DenL.refs h ⟨Nat.succ.inj e.1, fun i b y h1 h2 => e.2 (i + 1) b y h1 h2⟩⟩
  | [], _ :: _, e => absurd e.1 (by simp)
  | _ :: _, [], e => absurd e.1 (by simp)
/-- the name of its type -/
def tyN : DV → String
  | .bl _ => "bool"
  | .int _ => "int"
  | .str _ => "str"
  | .tup _ => "tuple"
  | .lst _ => "list"
theorem Den.ty {d : DV} {v : V} (h : Den K H d v) : TyX K H v (.type (tyN d)) := by
  cases d with
  | bl b => rw [Den] at h; rw [h]; exact .base (.bl _)
  | int b => rw [Den] at h; rw [h]; exact .base (.int _)
  | str b => rw [Den] at h; rw [h]; exact .base (.str _)
  | tup xs => rw [Den] at h; obtain ⟨a, vs, rfl, h1, _⟩ := h; exact tyT h1
  | lst xs => rw [Den] at h; obtain ⟨a, vs, rfl, h1, _⟩ := h; exact tyL h1
theorem Den.int_ {i : Int} : Den K H (.int i) (.int i) := by rw [Den]
theorem Den.bl_ {i : Bool} : Den K H (.bl i) (.bl i) := by rw [Den]
theorem Den.str_ {i : Str} : Den K H (.str i) (.str i) := by rw [Den]
theorem Den.tup_ {a : Addr} {vs : List V} {ds : List DV} (h : SqT K H a vs) (hl : vs.length ≤ 1000) (e : DenL K H ds vs) : Den K H (.tup ds) (.ref a) := by rw [Den]; exact ⟨a, vs, rfl, h, hl, e⟩
theorem DenL.nil_ : DenL K H [] [] := by rw [DenL]
theorem DenL.cons_ {d : DV} {ds : List DV} {v : V} {vs : List V} (h : Den K H d v) (t : DenL K H ds vs) : DenL K H (d :: ds) (v :: vs) := by rw [DenL]; exact ⟨_, _, rfl, h, t⟩
/-! ### a letter as data -/
def dvI (ns : List Int) : DV := .tup (ns.map DV.int)
def dvD (d : Dd) : DV := .tup (.str (deedNames.getD d.place Str.empty) :: (if d.place = 8 then [dvI d.nums] else d.nums.map DV.int))
def dvE (e : Ev) : DV := .tup [.bl e.asleep, dvI e.shown, dvI e.after, dvD e.deed, dvI e.knows]
def dvR (r : Rc) : DV := .tup [.int r.dev, .int r.num, dvE r.ev]
def dvL (l : Lt) : DV := .tup [.int l.s, .int l.r, .int l.k, .int l.n, .tup (l.recs.map dvR)]
theorem denI {a ns} (h : TupI K H a ns) (hl : ns.length ≤ 1000) : Den K H (dvI ns) (.ref a) := Den.tup_ h (by rw [List.length_map]; exact hl) DenL.ints
theorem denD {a d} (h : DdAt K H a d) (hk : d.Ok) : Den K H (dvD d) (.ref a) := by
  have hl := hk.len
  obtain ⟨z, r, e, t, q⟩ := h
  have ez : deedNames.getD d.place Str.empty = z := by rw [List.getD_eq_getElem?_getD, e]; rfl
  unfold dvD
  rw [ez]
  rcases q with ⟨p8, b, rfl, h2⟩ | ⟨n8, rfl⟩
  · rw [if_pos p8]
    exact Den.tup_ t (by show 2 ≤ 1000; decide) (DenL.cons_ Den.str_ (DenL.cons_ (denI h2 (by omega)) DenL.nil_))
  · rw [if_neg n8]
    exact Den.tup_ t (by rw [List.length_cons, List.length_map]; omega) (DenL.cons_ Den.str_ DenL.ints)
theorem denE {a e} (h : EvAt K H a e) (hk : e.Ok) : Den K H (dvE e) (.ref a) := by
  have k1 := hk.s1; have k2 := hk.s2; have k3 := hk.s3
  obtain ⟨p, q, d, r, t, f1, f2, f3, f4⟩ := h
  exact Den.tup_ t (by show 5 ≤ 1000; decide) (DenL.cons_ Den.bl_ (DenL.cons_ (denI f1 (by omega)) (DenL.cons_ (denI f2 (by omega)) (DenL.cons_ (denD f3 hk.d) (DenL.cons_ (denI f4 (by omega)) DenL.nil_)))))
theorem denR {a r} (h : RcAt K H a r) (hk : r.Ok) : Den K H (dvR r) (.ref a) := by
  obtain ⟨e, t, f⟩ := h
  exact Den.tup_ t (by show 3 ≤ 1000; decide) (DenL.cons_ Den.int_ (DenL.cons_ Den.int_ (DenL.cons_ (denE f hk.e) DenL.nil_)))
theorem denL {a l} (h : LtAt K H a l) (hk : l.Ok) : Den K H (dvL l) (.ref a) := by
  have hl := hk.len
  obtain ⟨b, as, t, f, g⟩ := h
  refine Den.tup_ t (by show 5 ≤ 1000; decide) (DenL.cons_ Den.int_ (DenL.cons_ Den.int_ (DenL.cons_ Den.int_ (DenL.cons_ Den.int_ (DenL.cons_ (Den.tup_ f (by rw [List.length_map, g.1]; omega) ?_) DenL.nil_)))))
  exact DenL.refs (P := fun a r => RcAt K H a r ∧ r.Ok) (fun a r h => denR h.1 h.2) ⟨g.1, fun i b y h1 h2 => ⟨g.2 i b y h1 h2, hk.rs y (List.mem_of_getElem? h2)⟩⟩
end
theorem int_inj {as bs : List Int} (h : as.map DV.int = bs.map DV.int) : as = bs := by
  induction as generalizing bs with
  | nil =>
    cases bs with
    | nil => rfl
    | cons b r => simp at h
  | cons a r ih =>
    cases bs with
    | nil => simp at h
    | cons b s =>
      rw [List.map_cons, List.map_cons] at h
      injection h with h1 h2
      injection h1 with h1
      rw [h1, ih h2]
theorem dvI_inj {as bs : List Int} (h : dvI as = dvI bs) : as = bs := by
  unfold dvI at h
  injection h with h
  exact int_inj h
theorem dvD_inj {a b : Dd} (ha : a.place < 9) (hb : b.place < 9) (h : dvD a = dvD b) : a = b := by
  unfold dvD at h
  injection h with h
  injection h with h1 h2
  injection h1 with h1
  have e1 : deedNames[a.place]? = some (deedNames.getD a.place Str.empty) := by rw [List.getD_eq_getElem?_getD, List.getElem?_eq_getElem (by rw [dn_len]; exact ha)]; rfl
  have e2 : deedNames[b.place]? = some (deedNames.getD b.place Str.empty) := by rw [List.getD_eq_getElem?_getD, List.getElem?_eq_getElem (by rw [dn_len]; exact hb)]; rfl
  rw [h1] at e1
  have hp := nd_ix dn_nodup e1 e2
  have hn : a.nums = b.nums := by
    by_cases h8 : b.place = 8
    · rw [if_pos (hp.trans h8), if_pos h8] at h2
      injection h2 with h2
      exact dvI_inj h2
    · rw [if_neg (fun e => h8 (hp ▸ e)), if_neg h8] at h2
      exact int_inj h2
  cases a; cases b
  simp only at hp hn
  rw [hp, hn]
theorem dvE_inj {a b : Ev} (ha : a.Ok) (hb : b.Ok) (h : dvE a = dvE b) : a = b := by
  unfold dvE at h
  injection h with h
  injection h with h1 h
  injection h with h2 h
  injection h with h3 h
  injection h with h4 h
  injection h with h5 h
  injection h1 with h1
  have e2 := dvI_inj h2
  have e3 := dvI_inj h3
  have e4 := dvD_inj ha.d.pl hb.d.pl h4
  have e5 := dvI_inj h5
  cases a; cases b
  simp only at h1 e2 e3 e4 e5
  rw [h1, e2, e3, e4, e5]
theorem dvR_inj {a b : Rc} (ha : a.Ok) (hb : b.Ok) (h : dvR a = dvR b) : a = b := by
  unfold dvR at h
  injection h with h
  injection h with h1 h
  injection h with h2 h
  injection h with h3 h
  injection h1 with h1
  injection h2 with h2
  have e3 := dvE_inj ha.e hb.e h3
  cases a; cases b
  simp only at h1 h2 e3
  rw [h1, h2, e3]
theorem recs_inj : ∀ {as bs : List Rc}, (∀ r ∈ as, r.Ok) → (∀ r ∈ bs, r.Ok) → as.map dvR = bs.map dvR → as = bs
  | [], [], _, _, _ => rfl
  | [], _ :: _, _, _, h => by simp at h
  | _ :: _, [], _, _, h => by simp at h
  | a :: as, b :: bs, ha, hb, h => by
    rw [List.map_cons, List.map_cons] at h
    injection h with h1 h2
    rw [dvR_inj (ha a List.mem_cons_self) (hb b List.mem_cons_self) h1, recs_inj (fun r hr => ha r (List.mem_cons_of_mem _ hr)) (fun r hr => hb r (List.mem_cons_of_mem _ hr)) h2]
theorem dvL_inj {a b : Lt} (ha : a.Ok) (hb : b.Ok) (h : dvL a = dvL b) : a = b := by
  unfold dvL at h
  injection h with h
  injection h with h1 h
  injection h with h2 h
  injection h with h3 h
  injection h with h4 h
  injection h with h5 h
  injection h1 with h1
  injection h2 with h2
  injection h3 with h3
  injection h4 with h4
  injection h5 with h5
  have e5 := recs_inj ha.rs hb.rs h5
  cases a; cases b
  simp only at h1 h2 h3 h4 e5
  rw [h1, h2, h3, h4, e5]
/-! ### the integers tell the letter -/
theorem numSeq_inj {as bs r s : List Int} (h : numSeq as ++ r = numSeq bs ++ s) : as = bs ∧ r = s := by
  unfold numSeq at h
  rw [List.cons_append, List.cons_append] at h
  injection h with h1 h2
  exact List.append_inj h2 (by omega)
theorem numD_inj {a b : Dd} {r s : List Int} (ha : a.Ok) (hb : b.Ok) (h : numD a ++ r = numD b ++ s) : a = b ∧ r = s := by
  unfold numD at h
  rw [List.cons_append, List.cons_append] at h
  injection h with h1 h2
  have hp : a.place = b.place := by omega
  have key : a.nums = b.nums ∧ r = s := by
    by_cases h8 : b.place = 8
    · rw [if_pos (hp.trans h8), if_pos h8] at h2
      exact numSeq_inj h2
    · rw [if_neg (fun e => h8 (hp ▸ e)), if_neg h8] at h2
      exact List.append_inj h2 (by rw [ha.ar (fun e => h8 (hp ▸ e)), hb.ar h8, hp])
  refine ⟨?_, key.2⟩
  cases a; cases b
  simp only at hp key
  rw [hp, key.1]
theorem b2n_inj {a b : Bool} (h : b2n a = b2n b) : a = b := by
  cases a <;> cases b <;> first | rfl | (exact absurd h (by decide))
theorem numE_app' (e : Ev) (rest : List Int) : numE e ++ rest = b2n e.asleep :: (numSeq e.shown ++ (numSeq e.after ++ (numD e.deed ++ (numSeq e.knows ++ rest)))) := by
  unfold numE
  simp only [List.append_assoc]
  rfl
theorem numE_inj {a b : Ev} {r s : List Int} (ha : a.Ok) (hb : b.Ok) (h : numE a ++ r = numE b ++ s) : a = b ∧ r = s := by
  rw [numE_app', numE_app'] at h
  injection h with h1 h
  obtain ⟨h2, h⟩ := numSeq_inj h
  obtain ⟨h3, h⟩ := numSeq_inj h
  obtain ⟨h4, h⟩ := numD_inj ha.d hb.d h
  obtain ⟨h5, h⟩ := numSeq_inj h
  have e1 := b2n_inj h1
  refine ⟨?_, h⟩
  cases a; cases b
  simp only at e1 h2 h3 h4 h5
  rw [e1, h2, h3, h4, h5]
theorem numR_inj {a b : Rc} {r s : List Int} (ha : a.Ok) (hb : b.Ok) (h : numR a ++ r = numR b ++ s) : a = b ∧ r = s := by
  have h' : a.dev :: a.num :: (numE a.ev ++ r) = b.dev :: b.num :: (numE b.ev ++ s) := h
  injection h' with h1 h'
  injection h' with h2 h'
  obtain ⟨h3, h⟩ := numE_inj ha.e hb.e h'
  refine ⟨?_, h⟩
  cases a; cases b
  simp only at h1 h2 h3
  rw [h1, h2, h3]
theorem numRs_inj : ∀ {as bs : List Rc}, (∀ r ∈ as, r.Ok) → (∀ r ∈ bs, r.Ok) → as.length = bs.length → as.flatMap numR = bs.flatMap numR → as = bs
  | [], [], _, _, _, _ => rfl
  | [], _ :: _, _, _, h, _ => by simp at h
  | _ :: _, [], _, _, h, _ => by simp at h
  | a :: as, b :: bs, ha, hb, hl, h => by
    rw [List.flatMap_cons, List.flatMap_cons] at h
    obtain ⟨h1, h2⟩ := numR_inj (ha a List.mem_cons_self) (hb b List.mem_cons_self) h
    rw [h1, numRs_inj (fun r hr => ha r (List.mem_cons_of_mem _ hr)) (fun r hr => hb r (List.mem_cons_of_mem _ hr)) (Nat.succ.inj hl) h2]
theorem numL_inj {a b : Lt} (ha : a.Ok) (hb : b.Ok) (h : numL a = numL b) : a = b := by
  have h' : a.s :: a.r :: a.k :: a.n :: (a.recs.length : Int) :: a.recs.flatMap numR = b.s :: b.r :: b.k :: b.n :: (b.recs.length : Int) :: b.recs.flatMap numR := h
  injection h' with h1 h'
  injection h' with h2 h'
  injection h' with h3 h'
  injection h' with h4 h'
  injection h' with h5 h'
  have e6 := numRs_inj ha.rs hb.rs (by omega) h'
  cases a; cases b
  simp only at h1 h2 h3 h4 e6
  rw [h1, h2, h3, h4, e6]
theorem words_inj : ∀ {as bs : List Int}, (∀ n ∈ as, In18 n) → (∀ n ∈ bs, In18 n) → words as = words bs → as = bs
  | [], [], _, _, _ => rfl
  | [], _ :: _, _, _, h => by simp [words] at h
  | _ :: _, [], _, _, h => by simp [words] at h
  | a :: as, b :: bs, ha, hb, h => by
    unfold words at h
    rw [List.map_cons, List.map_cons] at h
    injection h with h1 h2
    have e1 := wd_int (ha a List.mem_cons_self)
    have e2 := wd_int (hb b List.mem_cons_self)
    have h1 : wd a = wd b := h1
    rw [h1, e2] at e1
    rw [Option.some.inj e1, words_inj (fun r hr => ha r (List.mem_cons_of_mem _ hr)) (fun r hr => hb r (List.mem_cons_of_mem _ hr)) h2]
theorem text_inj {hd : Str} {as bs : List Int} (hf : (10 : Nat) ∉ TL.tl hd) (ha : ∀ n ∈ as, In18 n) (hb : ∀ n ∈ bs, In18 n) (na : as ≠ []) (nb : bs ≠ []) (h : textOf hd as = textOf hd bs) : as = bs := by
  have e1 := text_split (ns := as) hf
  have e2 := text_split (ns := bs) hf
  rw [h, e2] at e1
  injection e1 with _ e1
  injection e1 with e1 _
  have w1 := words_split na
  have w2 := words_split nb
  rw [← e1, w2] at w1
  exact (words_inj hb ha w1).symm
theorem letter_text_iff {a b : Lt} (ha : a.Ok) (hb : b.Ok) : decide (V.str (textOf "whensure letter" (numL a)) = V.str (textOf "whensure letter" (numL b))) = sameV (dvL a) (dvL b) := by
  by_cases h : a = b
  · rw [h, sameV_refl, decide_eq_true rfl]
  · have h1 : sameV (dvL a) (dvL b) = false := by
      cases e : sameV (dvL a) (dvL b) with
      | false => rfl
      | true => exact absurd (dvL_inj ha hb (sameV_eq _ _ e)) h
    rw [h1]
    refine decide_eq_false fun e => h ?_
    injection e with e
    exact numL_inj ha hb (text_inj (by decide +kernel) (numL_in ha) (numL_in hb) (by unfold numL; simp) (by unfold numL; simp) e)

theorem ifIntT {a b : Int} {A B : Prop} (h : a = b) (x : A) : if decide (V.int a = V.int b) = true then A else B := by
  rw [decide_eq_true (show V.int a = V.int b by rw [h])]
  exact iteT x
theorem ifIntF {a b : Int} {A B : Prop} (h : a ≠ b) (x : B) : if decide (V.int a = V.int b) = true then A else B := by
  rw [decide_eq_false (show ¬ V.int a = V.int b from fun e => h (by injection e))]
  exact iteF x
theorem depVL_le {n : Nat} : ∀ {xs : List DV}, (∀ x ∈ xs, depV x ≤ n) → depVL xs ≤ n
  | [], _ => by rw [depVL]; exact Nat.zero_le _
  | x :: xs, h => by
    have h1 := h x List.mem_cons_self
    have h2 := depVL_le (xs := xs) fun y hy => h y (List.mem_cons_of_mem _ hy)
    rw [depVL]
    omega
theorem dep_ints (ns : List Int) : depVL (ns.map DV.int) ≤ 1 := depVL_le fun x hx => by
  obtain ⟨n, _, rfl⟩ := List.mem_map.mp hx
  rw [depV]
  omega
theorem dep_I (ns : List Int) : depV (dvI ns) ≤ 2 := by
  have := dep_ints ns
  unfold dvI
  rw [depV]
  omega
theorem dep_D (d : Dd) : depV (dvD d) ≤ 3 := by
  unfold dvD
  rw [depV, depVL, depV]
  split
  · have := dep_I d.nums
    rw [depVL, depVL]
    omega
  · have := dep_ints d.nums
    omega
theorem dep_E (e : Ev) : depV (dvE e) ≤ 4 := by
  have h1 := dep_I e.shown; have h2 := dep_I e.after; have h3 := dep_D e.deed; have h4 := dep_I e.knows
  unfold dvE
  rw [depV, depVL, depVL, depVL, depVL, depVL, depVL, depV]
  omega
theorem dep_R (r : Rc) : depV (dvR r) ≤ 5 := by
  have h1 := dep_E r.ev
  unfold dvR
  rw [depV, depVL, depVL, depVL, depVL, depV, depV]
  omega
theorem dep_L (l : Lt) : depV (dvL l) ≤ 7 := by
  have h1 : depVL (l.recs.map dvR) ≤ 5 := depVL_le fun x hx => by
    obtain ⟨r, _, rfl⟩ := List.mem_map.mp hx
    exact dep_R r
  unfold dvL
  rw [depV, depVL, depVL, depVL, depVL, depVL, depVL, depV, depV, depV, depV, depV]
  omega
theorem kitAll : ∀ t ∈ ["bool", "int", "str", "tuple", "list"], kitB t "bool" = some (t == "bool") ∧ kitB t "int" = some (t == "int" || t == "bool") ∧ kitB t "str" = some (t == "str") ∧ kitB t "tuple" = some (t == "tuple") ∧ kitB t "list" = some (t == "list") := by decide +kernel
theorem tyN_mem (d : DV) : tyN d ∈ ["bool", "int", "str", "tuple", "list"] := by cases d <;> simp [tyN]
theorem kB (d : DV) : kitB (tyN d) "bool" = some (tyN d == "bool") := (kitAll _ (tyN_mem d)).1
theorem kI (d : DV) : kitB (tyN d) "int" = some (tyN d == "int" || tyN d == "bool") := (kitAll _ (tyN_mem d)).2.1
theorem kS (d : DV) : kitB (tyN d) "str" = some (tyN d == "str") := (kitAll _ (tyN_mem d)).2.2.1
theorem kT (d : DV) : kitB (tyN d) "tuple" = some (tyN d == "tuple") := (kitAll _ (tyN_mem d)).2.2.2.1
theorem kL (d : DV) : kitB (tyN d) "list" = some (tyN d == "list") := (kitAll _ (tyN_mem d)).2.2.2.2
theorem Each.take {α : Type} {P : Addr → α → Prop} {as xs} (h : Each P as xs) (n : Nat) : Each P (as.take n) (xs.take n) := by
  refine ⟨by rw [List.length_take, List.length_take, h.1], fun i a x h1 h2 => ?_⟩
  have hi : i < n := by
    have := (List.getElem?_eq_some_iff.mp h1).1
    rw [List.length_take] at this
    omega
  rw [List.getElem?_take_of_lt hi] at h1 h2
  exact h.2 i a x h1 h2
theorem Each.drop {α : Type} {P : Addr → α → Prop} {as xs} (h : Each P as xs) (n : Nat) : Each P (as.drop n) (xs.drop n) := by
  refine ⟨by rw [List.length_drop, List.length_drop, h.1], fun i a x h1 h2 => ?_⟩
  rw [List.getElem?_drop] at h1 h2
  exact h.2 _ a x h1 h2
theorem Each.append {α : Type} {P : Addr → α → Prop} {as xs bs ys} (h : Each P as xs) (h' : Each P bs ys) : Each P (as ++ bs) (xs ++ ys) := by
  refine ⟨by rw [List.length_append, List.length_append, h.1, h'.1], fun i a x h1 h2 => ?_⟩
  by_cases hi : i < as.length
  · rw [List.getElem?_append_left hi] at h1
    rw [List.getElem?_append_left (by rw [← h.1]; exact hi)] at h2
    exact h.2 i a x h1 h2
  · rw [List.getElem?_append_right (by omega)] at h1
    rw [List.getElem?_append_right (by rw [← h.1]; omega), ← h.1] at h2
    exact h'.2 _ a x h1 h2
theorem Each.set {α : Type} {P : Addr → α → Prop} {as xs} (h : Each P as xs) {j : Nat} {a : Addr} {x : α} (p : P a x) : Each P (as.set j a) (xs.set j x) := by
  refine ⟨by rw [List.length_set, List.length_set, h.1], fun i b y h1 h2 => ?_⟩
  by_cases hij : j = i
  · subst hij
    have hj : j < as.length := by
      have := (List.getElem?_eq_some_iff.mp h1).1
      rw [List.length_set] at this
      exact this
    rw [List.getElem?_set_self hj] at h1
    rw [List.getElem?_set_self (by rw [← h.1]; exact hj)] at h2
    cases h1
    cases h2
    exact p
  · rw [List.getElem?_set_ne hij] at h1 h2
    exact h.2 i b y h1 h2

theorem ixn {n j : Nat} (hj : j < n) : ixN n (j : Int) = some j := by
  unfold ixN
  rw [if_pos (by omega), if_pos (by omega)]
  rfl
end Vs

namespace Vs
open PySem PySem.Spec PyProof.Rows L2
/-! ### what a frame holds -/
structure Kd where
  name : Str
  low : Int
  high : Option Int
structure Cl where
  name : Str
  dev : Int
  goes : Bool
  kinds : List Kd
structure Lk where
  name : Str
  s : Int
  r : Int
  kinds : List Kd
structure Sr where
  name : Str
  dev : Int
  kinds : List Kd
structure Fm where
  devices : List Str
  clocks : List Cl
  links : List Lk
  sources : List Sr
  faults : Int
def hiV : Option Int → V
  | some h => .int h
  | none => .non
def KdAt (K : PySem.W.Frag) (H : Hp) (a : Addr) (k : Kd) : Prop := SqT K H a [.str k.name, .int k.low, hiV k.high]
def KsAt (K : PySem.W.Frag) (H : Hp) (a : Addr) (ks : List Kd) : Prop := ∃ as, SqT K H a (as.map V.ref) ∧ Each (KdAt K H) as ks
def ClAt (K : PySem.W.Frag) (H : Hp) (a : Addr) (c : Cl) : Prop := ∃ t, SqT K H a [.str c.name, .int c.dev, .bl c.goes, .ref t] ∧ KsAt K H t c.kinds
def LkAt (K : PySem.W.Frag) (H : Hp) (a : Addr) (c : Lk) : Prop := ∃ t, SqT K H a [.str c.name, .int c.s, .int c.r, .ref t] ∧ KsAt K H t c.kinds
def SrAt (K : PySem.W.Frag) (H : Hp) (a : Addr) (c : Sr) : Prop := ∃ t, SqT K H a [.str c.name, .int c.dev, .ref t] ∧ KsAt K H t c.kinds
structure Kd.Ok (k : Kd) : Prop where
  nm : k.name.length ≤ 12
  lo : In18 k.low
  hi : ∀ h, k.high = some h → In18 h
structure KsOk (ks : List Kd) : Prop where
  len : ks.length ≤ 4
  ok : ∀ k ∈ ks, k.Ok
/-- a number that names one of n devices -/
def DevOk (n : Nat) (d : Int) : Prop := 0 ≤ d ∧ d < (n : Int)
structure Cl.Ok (n : Nat) (c : Cl) : Prop where
  nm : c.name.length ≤ 12
  dv : DevOk n c.dev
  ks : KsOk c.kinds
structure Lk.Ok (n : Nat) (c : Lk) : Prop where
  nm : c.name.length ≤ 12
  ds : DevOk n c.s
  dr : DevOk n c.r
  ks : KsOk c.kinds
structure Sr.Ok (n : Nat) (c : Sr) : Prop where
  nm : c.name.length ≤ 12
  dv : DevOk n c.dev
  ks : KsOk c.kinds
structure Fm.Ok (F : Fm) : Prop where
  dl : F.devices.length ≤ 6
  dn : ∀ z ∈ F.devices, z.length ≤ 12
  cl : F.clocks.length ≤ 9
  ll : F.links.length ≤ 9
  sl : F.sources.length ≤ 9
  c : ∀ c ∈ F.clocks, c.Ok F.devices.length
  l : ∀ c ∈ F.links, c.Ok F.devices.length
  s : ∀ c ∈ F.sources, c.Ok F.devices.length
  f0 : 0 ≤ F.faults
  f2 : F.faults ≤ 2
/-- a frame's five places: the lists, and what they hold -/
structure FmIn (K : PySem.W.Frag) (H : Hp) (d c l s : Addr) (F : Fm) : Prop where
  d : H d = some (.lst (F.devices.map V.str))
  c : ∃ as, H c = some (.lst (as.map V.ref)) ∧ Each (ClAt K H) as F.clocks
  l : ∃ as, H l = some (.lst (as.map V.ref)) ∧ Each (LkAt K H) as F.links
  s : ∃ as, H s = some (.lst (as.map V.ref)) ∧ Each (SrAt K H) as F.sources
def FmAt (K : PySem.W.Frag) (H : Hp) (a : Addr) (F : Fm) : Prop := ∃ d c l s, SqT K H a [.ref d, .ref c, .ref l, .ref s, .int F.faults] ∧ FmIn K H d c l s F
section
variable {K : PySem.W.Frag} {H H' : Hp}
theorem KdAt.keep {a k} (e : Same H H') (h : KdAt K H a k) : KdAt K H' a k := sTup e h
theorem KsAt.keep {a k} (e : Same H H') (h : KsAt K H a k) : KsAt K H' a k := by
  obtain ⟨as, h1, h2⟩ := h
  exact ⟨as, sTup e h1, h2.keep fun _ _ z => z.keep e⟩
theorem ClAt.keep {a k} (e : Same H H') (h : ClAt K H a k) : ClAt K H' a k := by
  obtain ⟨t, h1, h2⟩ := h
  exact ⟨t, sTup e h1, h2.keep e⟩
theorem LkAt.keep {a k} (e : Same H H') (h : LkAt K H a k) : LkAt K H' a k := by
  obtain ⟨t, h1, h2⟩ := h
  exact ⟨t, sTup e h1, h2.keep e⟩
theorem SrAt.keep {a k} (e : Same H H') (h : SrAt K H a k) : SrAt K H' a k := by
  obtain ⟨t, h1, h2⟩ := h
  exact ⟨t, sTup e h1, h2.keep e⟩
variable {o : Addr} {xs : List V}
theorem KdAt.but {a k} (e : But o H H') (ho : H o = some (.lst xs)) (h : KdAt K H a k) : KdAt K H' a k := butTup e ho h
theorem KsAt.but {a k} (e : But o H H') (ho : H o = some (.lst xs)) (h : KsAt K H a k) : KsAt K H' a k := by
  obtain ⟨as, h1, h2⟩ := h
  exact ⟨as, butTup e ho h1, h2.keep fun _ _ z => z.but e ho⟩
theorem ClAt.but {a k} (e : But o H H') (ho : H o = some (.lst xs)) (h : ClAt K H a k) : ClAt K H' a k := by
  obtain ⟨t, h1, h2⟩ := h
  exact ⟨t, butTup e ho h1, h2.but e ho⟩
theorem LkAt.but {a k} (e : But o H H') (ho : H o = some (.lst xs)) (h : LkAt K H a k) : LkAt K H' a k := by
  obtain ⟨t, h1, h2⟩ := h
  exact ⟨t, butTup e ho h1, h2.but e ho⟩
theorem SrAt.but {a k} (e : But o H H') (ho : H o = some (.lst xs)) (h : SrAt K H a k) : SrAt K H' a k := by
  obtain ⟨t, h1, h2⟩ := h
  exact ⟨t, butTup e ho h1, h2.but e ho⟩
theorem FmIn.keep {d c l s F} (e : Same H H') (h : FmIn K H d c l s F) : FmIn K H' d c l s F := by
  obtain ⟨h0, ⟨a1, h1, g1⟩, ⟨a2, h2, g2⟩, ⟨a3, h3, g3⟩⟩ := h
  exact ⟨e _ _ h0, ⟨a1, e _ _ h1, g1.keep fun _ _ z => z.keep e⟩, ⟨a2, e _ _ h2, g2.keep fun _ _ z => z.keep e⟩, ⟨a3, e _ _ h3, g3.keep fun _ _ z => z.keep e⟩⟩
theorem FmAt.keep {a F} (e : Same H H') (h : FmAt K H a F) : FmAt K H' a F := by
  obtain ⟨d, c, l, s, h1, h2⟩ := h
  exact ⟨d, c, l, s, sTup e h1, h2.keep e⟩
end
/-! ### the drawn rows -/
def RowsAt (H : Hp) (r : Addr) : Prop := ∃ ns : List Int, H r = some (.lst (ns.map V.int)) ∧ ns.length = 26
theorem RowsAt.lst {H : Hp} {r : Addr} (h : RowsAt H r) : ∃ xs, H r = some (.lst xs) := by
  obtain ⟨ns, h, _⟩ := h
  exact ⟨_, h⟩
theorem RowsAt.keep {H H' : Hp} {r : Addr} (e : Same H H') (h : RowsAt H r) : RowsAt H' r := by
  obtain ⟨ns, h, h2⟩ := h
  exact ⟨ns, e _ _ h, h2⟩
theorem RowsAt.but {H H' : Hp} {r o : Addr} (e : But o H H') (n : r ≠ o) (h : RowsAt H r) : RowsAt H' r := by
  obtain ⟨ns, h, h2⟩ := h
  exact ⟨ns, e _ _ n h, h2⟩
theorem But.upd {r : Addr} {H H' : Hp} {p : Addr} {o : HO} (b : But r H H') (h : H p = none) : But r H (upd H' p o) := fun c w hc hw => by
  rw [upd_ne (ne_of_none hw h)]
  exact b c w hc hw
theorem But.free {r : Addr} {H H' : Hp} {p : Addr} (b : But r H H') (hr : p ≠ r) (h : H' p = none) : H p = none := by
  cases e : H p with
  | none => rfl
  | some w => rw [b _ _ hr e] at h; cases h
theorem flat_strs : ∀ ss : List Str, (ss.map V.str).all flatV = true
  | [] => rfl
  | s :: r => by
    show (true && (r.map V.str).all flatV) = true
    rw [flat_strs r]
    rfl
theorem str_get {ss : List Str} {i : Nat} {x : V} (h : (ss.map V.str)[i]? = some x) : ∃ hi : i < ss.length, x = V.str ss[i] := by
  have hi := (List.getElem?_eq_some_iff.mp h).1
  rw [List.length_map] at hi
  refine ⟨hi, ?_⟩
  rw [List.getElem?_map, List.getElem?_eq_getElem hi] at h
  exact (Option.some.inj h).symm
theorem str_at {ss : List Str} {j : Int} (h0 : 0 ≤ j) (h1 : j < (ss.length : Int)) : ∃ z ∈ ss, atI (ss.map V.str) j = some (.str z) := by
  have hi : j.toNat < ss.length := by omega
  exact ⟨ss[j.toNat], List.getElem_mem hi, at_of (j := j.toNat) (by omega) (by rw [List.getElem?_map, List.getElem?_eq_getElem hi]; rfl)⟩
theorem sign_at {z : Str} {j : Int} (h0 : 0 ≤ j) (h1 : j < (z.length : Int)) : ∃ c : Nat, atI z.cps.toList j = some c := by
  have hl : z.cps.toList.length = z.length := (TL.len_tl z).symm
  have e : j = ((j.toNat : Nat) : Int) := by omega
  rw [e]
  exact ⟨_, atI_nat (List.getElem?_eq_getElem (by rw [hl]; omega))⟩
theorem cutS_le {z : Str} {n : Nat} : (cutS z none (some (n : Int))).length ≤ n := by
  rw [TL.len_tl]
  unfold cutS
  show (List.take _ (List.drop _ _)).length ≤ n
  rw [List.length_take, HT.sIx_nat]
  omega
theorem menu_int {xs : List Int} {j : Int} (h0 : 0 ≤ j) (h1 : j < (xs.length : Int)) : ∃ z ∈ xs, atI (xs.map V.int) j = some (.int z) := by
  have hi : j.toNat < xs.length := by omega
  exact ⟨xs[j.toNat], List.getElem_mem hi, at_of (j := j.toNat) (by omega) (by rw [List.getElem?_map, List.getElem?_eq_getElem hi]; rfl)⟩
end Vs

namespace Vs
open PySem PySem.Spec PyProof.Rows L2
/-- a text made of parts -/
def tJoin (ts : List TE) : TE := fun σ H Q => tJs ts Str.empty σ H fun out H1 => Q (.str out) H1
theorem pe_joinedD {X : Cx} {v1 v2 : Expr} {rest : List Expr} {ts : List TE} {pos : Pos} (h : PJ X (v1 :: v2 :: rest) ts) : PE X (.JoinedStr (v1 :: v2 :: rest) pos) (tJoin ts) := pe_joined h
/-! ### the lines of a frame -/
def numW : Option Int → Str
  | some h => toString h
  | none => "none"
def kdLine (k : Kd) : Str := "kind " ++ k.name ++ " " ++ numW (some k.low) ++ " " ++ numW k.high
def devAt (ds : List Str) (d : Int) : Str := ds.getD d.toNat ""
def clHead (ds : List Str) (c : Cl) : Str := "clock " ++ c.name ++ " of " ++ devAt ds c.dev ++ (if c.goes = true then Str.ofString " goes on asleep" else Str.ofString "")
def lkHead (ds : List Str) (c : Lk) : Str := "link " ++ c.name ++ " from " ++ devAt ds c.s ++ " to " ++ devAt ds c.r
def srHead (ds : List Str) (c : Sr) : Str := "source " ++ c.name ++ " at " ++ devAt ds c.dev
def clLines (ds : List Str) (c : Cl) : List Str := clHead ds c :: c.kinds.map kdLine
def lkLines (ds : List Str) (c : Lk) : List Str := lkHead ds c :: c.kinds.map kdLine
def srLines (ds : List Str) (c : Sr) : List Str := srHead ds c :: c.kinds.map kdLine
def dvLine (z : Str) : Str := "device " ++ z
def ftLines (n : Int) : List Str := if n = 0 then [] else ["faults " ++ numW (some n)]
def linesF (F : Fm) : List Str := F.devices.map dvLine ++ F.clocks.flatMap (clLines F.devices) ++ F.links.flatMap (lkLines F.devices) ++ F.sources.flatMap (srLines F.devices) ++ ftLines F.faults
/-- the lines, a line feed behind each -/
def textF (ls : List Str) : Str := ls.foldl (fun (t l : Str) => t ++ l ++ "\n") Str.empty
theorem empty_add (x : Str) : Str.empty ++ x = x := by
  show Str.append _ _ = x
  cases x with
  | mk cs => simp [Str.append, Str.empty]
theorem nil_eq : Str.ofString "" = Str.empty := by decide +kernel
theorem add_empty (x : Str) : x ++ (Str.ofString "" : Str) = x := by
  rw [nil_eq]
  show Str.append _ _ = x
  cases x with
  | mk cs => simp [Str.append, Str.empty]
theorem add_assoc (x y z : Str) : x ++ y ++ z = x ++ (y ++ z) := by
  show Str.append (Str.append _ _) _ = Str.append _ (Str.append _ _)
  simp [Str.append, Array.append_assoc]
theorem numW_len {o : Option Int} (h : ∀ i, o = some i → In18 i) : (numW o).length ≤ 19 := by
  cases o with
  | none => exact (by decide +kernel : (Str.ofString "none").length ≤ 19)
  | some i => exact word_len (h i rfl)
theorem lit_len {s : Str} {n : Nat} (h : s.length = n := by decide +kernel) : s.length = n := h
theorem kdLine_len {k : Kd} (h : k.Ok) : (kdLine k).length ≤ 60 := by
  have h1 := h.nm
  have h2 := numW_len (o := some k.low) fun i e => by cases e; exact h.lo
  have h3 := numW_len h.hi
  have l1 : (Str.ofString "kind ").length = 5 := by decide +kernel
  have l2 : (Str.ofString " ").length = 1 := by decide +kernel
  unfold kdLine
  rw [Str.length_append, Str.length_append, Str.length_append, Str.length_append, Str.length_append, l1, l2]
  omega
theorem devAt_eq {ds : List Str} {d : Int} (h : DevOk ds.length d) : atI (ds.map V.str) d = some (.str (devAt ds d)) ∧ devAt ds d ∈ ds := by
  obtain ⟨h0, h1⟩ := h
  have hi : d.toNat < ds.length := by omega
  have e : devAt ds d = ds[d.toNat] := by
    unfold devAt
    rw [List.getD_eq_getElem?_getD, List.getElem?_eq_getElem hi]
    rfl
  rw [e]
  exact ⟨at_of (j := d.toNat) (by omega) (by rw [List.getElem?_map, List.getElem?_eq_getElem hi]; rfl), List.getElem_mem hi⟩
theorem asleep_len : (Str.ofString " goes on asleep").length = 15 := by decide +kernel
theorem clock_len : (Str.ofString "clock ").length = 6 := by decide +kernel
theorem of_len : (Str.ofString " of ").length = 4 := by decide +kernel
theorem link_len : (Str.ofString "link ").length = 5 := by decide +kernel
theorem from_len : (Str.ofString " from ").length = 6 := by decide +kernel
theorem to_len : (Str.ofString " to ").length = 4 := by decide +kernel
theorem source_len : (Str.ofString "source ").length = 7 := by decide +kernel
theorem at_len : (Str.ofString " at ").length = 4 := by decide +kernel
theorem kind_len : (Str.ofString "kind ").length = 5 := by decide +kernel
theorem device_len : (Str.ofString "device ").length = 7 := by decide +kernel
theorem faults_len : (Str.ofString "faults ").length = 7 := by decide +kernel
theorem empty_len : Str.empty.length = 0 := rfl
theorem clHead_len {ds : List Str} {c : Cl} (hd : ∀ z ∈ ds, z.length ≤ 12) (h : c.Ok ds.length) : (clHead ds c).length ≤ 60 := by
  have h1 := h.nm
  have h2 := hd _ (devAt_eq h.dv).2
  have h3 : (if c.goes = true then (Str.ofString " goes on asleep") else (Str.ofString "")).length ≤ 15 := by
    split
    · rw [asleep_len]; exact Nat.le_refl _
    · decide +kernel
  unfold clHead
  rw [Str.length_append, Str.length_append, Str.length_append, Str.length_append, clock_len, of_len]
  omega
theorem lkHead_len {ds : List Str} {c : Lk} (hd : ∀ z ∈ ds, z.length ≤ 12) (h : c.Ok ds.length) : (lkHead ds c).length ≤ 60 := by
  have h1 := h.nm
  have h2 := hd _ (devAt_eq h.ds).2
  have h3 := hd _ (devAt_eq h.dr).2
  unfold lkHead
  rw [Str.length_append, Str.length_append, Str.length_append, Str.length_append, Str.length_append, link_len, from_len, to_len]
  omega
theorem srHead_len {ds : List Str} {c : Sr} (hd : ∀ z ∈ ds, z.length ≤ 12) (h : c.Ok ds.length) : (srHead ds c).length ≤ 60 := by
  have h1 := h.nm
  have h2 := hd _ (devAt_eq h.dv).2
  unfold srHead
  rw [Str.length_append, Str.length_append, Str.length_append, source_len, at_len]
  omega
/-- lines, each short -/
structure LnOk (ls : List Str) (n : Nat) : Prop where
  len : ls.length ≤ n
  ok : ∀ z ∈ ls, z.length ≤ 60
theorem LnOk.app {a b : List Str} {n m : Nat} (h : LnOk a n) (g : LnOk b m) : LnOk (a ++ b) (n + m) :=
  ⟨by rw [List.length_append]; have := h.len; have := g.len; omega, fun z hz => (List.mem_append.mp hz).elim (h.ok z) (g.ok z)⟩
theorem LnOk.mono {a : List Str} {n m : Nat} (h : LnOk a n) (e : n ≤ m) : LnOk a m := ⟨Nat.le_trans h.len e, h.ok⟩
theorem LnOk.flat {α : Type} {f : α → List Str} {k : Nat} : ∀ {xs : List α}, (∀ x ∈ xs, LnOk (f x) k) → LnOk (xs.flatMap f) (xs.length * k)
  | [], _ => ⟨Nat.zero_le _, fun z h => by simp at h⟩
  | x :: r, h => by
    rw [List.flatMap_cons, List.length_cons, Nat.succ_mul, Nat.add_comm]
    exact (h x List.mem_cons_self).app (LnOk.flat fun y hy => h y (List.mem_cons_of_mem _ hy))
theorem kdLines_ok {ks : List Kd} (h : KsOk ks) : LnOk (ks.map kdLine) 4 := ⟨by rw [List.length_map]; exact h.len, fun z hz => by
  obtain ⟨k, hk, rfl⟩ := List.mem_map.mp hz
  exact kdLine_len (h.ok k hk)⟩
theorem cons_ok {z : Str} {ls : List Str} {n : Nat} (hz : z.length ≤ 60) (h : LnOk ls n) : LnOk (z :: ls) (n + 1) := ⟨by rw [List.length_cons]; have := h.len; omega, fun y hy => by
  rcases List.mem_cons.mp hy with e | e
  · rw [e]; exact hz
  · exact h.ok y e⟩
theorem clLines_ok {ds : List Str} {c : Cl} (hd : ∀ z ∈ ds, z.length ≤ 12) (h : c.Ok ds.length) : LnOk (clLines ds c) 5 := cons_ok (clHead_len hd h) (kdLines_ok h.ks)
theorem lkLines_ok {ds : List Str} {c : Lk} (hd : ∀ z ∈ ds, z.length ≤ 12) (h : c.Ok ds.length) : LnOk (lkLines ds c) 5 := cons_ok (lkHead_len hd h) (kdLines_ok h.ks)
theorem srLines_ok {ds : List Str} {c : Sr} (hd : ∀ z ∈ ds, z.length ≤ 12) (h : c.Ok ds.length) : LnOk (srLines ds c) 5 := cons_ok (srHead_len hd h) (kdLines_ok h.ks)
theorem cls_ok {F : Fm} (h : F.Ok) (i : Nat) : LnOk ((F.clocks.take i).flatMap (clLines F.devices)) 45 := (LnOk.flat (k := 5) fun c hc => clLines_ok h.dn (h.c c (List.mem_of_mem_take hc))).mono (by have := h.cl; rw [List.length_take]; omega)
theorem lks_ok {F : Fm} (h : F.Ok) (i : Nat) : LnOk ((F.links.take i).flatMap (lkLines F.devices)) 45 := (LnOk.flat (k := 5) fun c hc => lkLines_ok h.dn (h.l c (List.mem_of_mem_take hc))).mono (by have := h.ll; rw [List.length_take]; omega)
theorem srs_ok {F : Fm} (h : F.Ok) (i : Nat) : LnOk ((F.sources.take i).flatMap (srLines F.devices)) 45 := (LnOk.flat (k := 5) fun c hc => srLines_ok h.dn (h.s c (List.mem_of_mem_take hc))).mono (by have := h.sl; rw [List.length_take]; omega)
theorem dvs_ok {F : Fm} (h : F.Ok) : LnOk (F.devices.map dvLine) 6 := ⟨by rw [List.length_map]; exact h.dl, fun z hz => by
  obtain ⟨k, hk, rfl⟩ := List.mem_map.mp hz
  have := h.dn k hk
  unfold dvLine
  rw [Str.length_append, device_len]
  omega⟩
theorem flt_in {n : Int} (h0 : 0 ≤ n) (h2 : n ≤ 2) : In18 n := by
  have e : n = ((n.toNat : Nat) : Int) := by omega
  rw [e]
  exact In18.small (by omega)
theorem fts_ok {F : Fm} (h : F.Ok) : LnOk (ftLines F.faults) 1 := by
  unfold ftLines
  split
  · exact ⟨Nat.zero_le _, fun z h => by simp at h⟩
  · refine ⟨Nat.le_refl _, fun z hz => ?_⟩
    rw [List.mem_singleton.mp hz, Str.length_append, faults_len]
    have := numW_len (o := some F.faults) fun i e => by cases e; exact flt_in h.f0 h.f2
    omega
theorem linesF_ok {F : Fm} (h : F.Ok) : LnOk (linesF F) 142 := by
  have h1 := cls_ok h F.clocks.length
  have h2 := lks_ok h F.links.length
  have h3 := srs_ok h F.sources.length
  rw [List.take_length] at h1 h2 h3
  exact (((dvs_ok h).app h1).app h2).app h3 |>.app (fts_ok h)
/-! ### the text -/
theorem textF_snoc (ls : List Str) (l : Str) : textF (ls ++ [l]) = textF ls ++ l ++ "\n" := by
  unfold textF
  rw [List.foldl_append]
  rfl
theorem textF_len {ls : List Str} {n : Nat} (h : LnOk ls n) : (textF ls).length ≤ ls.length * 61 := by
  obtain ⟨_, h⟩ := h
  suffices g : ∀ (ls : List Str) (t : Str), (∀ z ∈ ls, z.length ≤ 60) → (ls.foldl (fun (t l : Str) => t ++ l ++ "\n") t).length ≤ t.length + ls.length * 61 by
    have := g ls Str.empty h
    have e : Str.empty.length = 0 := rfl
    unfold textF
    omega
  intro ls
  induction ls with
  | nil => intro t _; simp
  | cons a r ih =>
    intro t hz
    have h1 := ih (t ++ a ++ "\n") fun z hz' => hz z (List.mem_cons_of_mem _ hz')
    rw [Str.length_append, Str.length_append, nl_len] at h1
    have h2 := hz a List.mem_cons_self
    rw [List.foldl_cons, List.length_cons, Nat.succ_mul]
    omega
/-- join of the lines with their line feeds by nothing -/
theorem join_nil_cons (a : Str) (r : List Str) : Str.join (Str.ofString "") (a :: r) = a ++ Str.join (Str.ofString "") r := by
  cases r with
  | nil =>
    show a = a ++ Str.ofString ""
    rw [add_empty]
  | cons b r =>
    show a ++ Str.ofString "" ++ Str.join (Str.ofString "") (b :: r) = _
    rw [add_empty]
theorem joinF (ls : List Str) : Txt.join (Str.ofString "") (ls.map fun l => l ++ "\n") = textF ls := by
  rw [TL.join_eq]
  suffices g : ∀ (ls : List Str) (t : Str), t ++ Str.join (Str.ofString "") (ls.map fun l => l ++ "\n") = ls.foldl (fun (t l : Str) => t ++ l ++ "\n") t by
    have := g ls Str.empty
    rw [empty_add] at this
    exact this
  intro ls
  induction ls with
  | nil => intro t; exact add_empty t
  | cons a r ih =>
    intro t
    rw [List.map_cons, join_nil_cons, List.foldl_cons, ← ih]
    simp only [add_assoc]
theorem fed_sum {ls : List Str} (h : ∀ z ∈ ls, z.length ≤ 60) : ((ls.map fun l => l ++ Str.ofString "\n").map (·.length)).sum ≤ ls.length * 61 := by
  induction ls with
  | nil => simp
  | cons a r ih =>
    have h1 := ih fun z hz => h z (List.mem_cons_of_mem _ hz)
    have h2 := h a List.mem_cons_self
    rw [List.map_cons, List.map_cons, List.sum_cons, List.length_cons, Nat.succ_mul, Str.length_append, nl_len]
    omega
theorem fed_fit {ls : List Str} {n : Nat} (h : LnOk ls n) (hn : n ≤ 1000) : ((ls.map fun l => l ++ Str.ofString "\n").map (·.length)).sum + (ls.map fun l => l ++ Str.ofString "\n").length * (Str.ofString "").length ≤ 16777216 := by
  have h1 := fed_sum h.ok
  have h2 := h.len
  rw [(by decide +kernel : (Str.ofString "").length = 0)]
  omega
/-! ### the data of a frame -/
def hiP : Option Int → PyData
  | some h => .int h
  | none => .none
def kdP (k : Kd) : PyData := .tuple [.str k.name, .int k.low, hiP k.high]
def ksP (ks : List Kd) : PyData := .tuple (ks.map kdP)
def clP (c : Cl) : PyData := .tuple [.str c.name, .int c.dev, .bool c.goes, ksP c.kinds]
def lkP (c : Lk) : PyData := .tuple [.str c.name, .int c.s, .int c.r, ksP c.kinds]
def srP (c : Sr) : PyData := .tuple [.str c.name, .int c.dev, ksP c.kinds]
section
variable {K : PySem.W.Frag} {H : Hp}
theorem hi_dp (o : Option Int) : Dp K H (hiV o) (hiP o) := by
  cases o with
  | none => exact .non
  | some i => exact .int i
theorem kd_dp {a : Addr} {k : Kd} (h : KdAt K H a k) : Dp K H (.ref a) (kdP k) := .tup h (.cons (.str _) (.cons (.int _) (.cons (hi_dp _) .nil)))
theorem all_dp {α : Type} {P : Addr → α → Prop} {f : α → PyData} (hp : ∀ a x, P a x → Dp K H (.ref a) (f x)) : ∀ {as : List Addr} {xs : List α}, Each P as xs → DpAll K H (as.map V.ref) (xs.map f)
  | [], [], _ => .nil
  | [], _ :: _, h => by cases h.1
  | _ :: _, [], h => by cases h.1
  | a :: as, x :: xs, h => .cons (hp a x (h.2 0 a x rfl rfl)) (all_dp hp ⟨Nat.succ.inj h.1, fun i b y e1 e2 => h.2 (i + 1) b y e1 e2⟩)
theorem ks_dp {a : Addr} {ks : List Kd} (h : KsAt K H a ks) : Dp K H (.ref a) (ksP ks) := by
  obtain ⟨as, h1, h2⟩ := h
  exact .tup h1 (all_dp (fun _ _ z => kd_dp z) h2)
theorem cl_dp {a : Addr} {c : Cl} (h : ClAt K H a c) : Dp K H (.ref a) (clP c) := by
  obtain ⟨t, h1, h2⟩ := h
  exact .tup h1 (.cons (.str _) (.cons (.int _) (.cons (.bl _) (.cons (ks_dp h2) .nil))))
theorem lk_dp {a : Addr} {c : Lk} (h : LkAt K H a c) : Dp K H (.ref a) (lkP c) := by
  obtain ⟨t, h1, h2⟩ := h
  exact .tup h1 (.cons (.str _) (.cons (.int _) (.cons (.int _) (.cons (ks_dp h2) .nil))))
theorem sr_dp {a : Addr} {c : Sr} (h : SrAt K H a c) : Dp K H (.ref a) (srP c) := by
  obtain ⟨t, h1, h2⟩ := h
  exact .tup h1 (.cons (.str _) (.cons (.int _) (.cons (ks_dp h2) .nil)))
end
theorem all_plain {α : Type} {f : α → PyData} (h : ∀ x, (f x).plain = true) : ∀ xs : List α, PyData.plainAll (xs.map f) = true
  | [] => rfl
  | x :: r => by
    show ((f x).plain && PyData.plainAll (r.map f)) = true
    rw [h x, all_plain h r]
    rfl
theorem all_depth {α : Type} {f : α → PyData} {n : Nat} (h : ∀ x, (f x).depth ≤ n) : ∀ xs : List α, PyData.depthAll (xs.map f) ≤ n
  | [] => Nat.zero_le _
  | x :: r => by
    show max (f x).depth (PyData.depthAll (r.map f)) ≤ n
    have := h x
    have := all_depth h r
    omega
theorem hi_plain (o : Option Int) : (hiP o).plain = true := by cases o <;> rfl
theorem kd_plain (k : Kd) : (kdP k).plain = true := by
  show (true && (true && ((hiP k.high).plain && true))) = true
  rw [hi_plain]
  rfl
theorem ks_plain (ks : List Kd) : (ksP ks).plain = true := all_plain kd_plain ks
theorem cl_plain (c : Cl) : (clP c).plain = true := by
  show (true && (true && (true && ((ksP c.kinds).plain && true)))) = true
  rw [ks_plain]
  rfl
theorem lk_plain (c : Lk) : (lkP c).plain = true := by
  show (true && (true && (true && ((ksP c.kinds).plain && true)))) = true
  rw [ks_plain]
  rfl
theorem sr_plain (c : Sr) : (srP c).plain = true := by
  show (true && (true && ((ksP c.kinds).plain && true))) = true
  rw [ks_plain]
  rfl
theorem hi_depth (o : Option Int) : (hiP o).depth ≤ 1 := by cases o <;> simp [hiP, PyData.depth]
theorem kd_depth (k : Kd) : (kdP k).depth ≤ 3 := by
  have := hi_depth k.high
  simp only [kdP, PyData.depth, PyData.depthAll]
  omega
theorem ks_depth (ks : List Kd) : (ksP ks).depth ≤ 5 := by
  have := all_depth kd_depth ks
  simp only [ksP, PyData.depth]
  omega
theorem cl_depth (c : Cl) : (clP c).depth ≤ 8 := by
  have := ks_depth c.kinds
  simp only [clP, PyData.depth, PyData.depthAll]
  omega
theorem lk_depth (c : Lk) : (lkP c).depth ≤ 8 := by
  have := ks_depth c.kinds
  simp only [lkP, PyData.depth, PyData.depthAll]
  omega
theorem sr_depth (c : Sr) : (srP c).depth ≤ 8 := by
  have := ks_depth c.kinds
  simp only [srP, PyData.depth, PyData.depthAll]
  omega
theorem list_depth {α : Type} {f : α → PyData} (h : ∀ x, (f x).depth ≤ 8) (xs : List α) : (PyData.list (xs.map f)).depth ≤ 64 := by
  have := all_depth h xs
  simp only [PyData.depth]
  omega
theorem list_eqv {α : Type} {f : α → PyData} (h : ∀ x, (f x).plain = true) (xs : List α) : PyData.eqv (.list (xs.map f)) (.list (xs.map f)) = true := SeqAt.eqv_refl_plain _ (all_plain h xs)
/-! ### blocks of lines -/
def LnAt (H : Hp) (a : Addr) (ls : List Str) : Prop := H a = some (.lst (ls.map V.str))
def BkAt (H : Hp) (l : Addr) (bs : List (List Str)) : Prop := ∃ as, H l = some (.lst (as.map V.ref)) ∧ Each (LnAt H) as bs ∧ l ∉ as
theorem BkAt.keep {H H' : Hp} {l : Addr} {bs : List (List Str)} (e : Same H H') (h : BkAt H l bs) : BkAt H' l bs := by
  obtain ⟨as, h1, h2, h3⟩ := h
  exact ⟨as, e _ _ h1, h2.keep fun _ _ z => e _ _ z, h3⟩
theorem BkAt.add {H : Hp} {l b : Addr} {bs : List (List Str)} {as : List Addr} {ls : List Str} (h1 : H l = some (.lst (as.map V.ref))) (h2 : Each (LnAt H) as bs) (h3 : l ∉ as) (hb : H b = some (.lst (ls.map V.str))) (n : l ≠ b) :
    BkAt (upd H l (.lst (as.map V.ref ++ [V.ref b]))) l (bs ++ [ls]) := by
  refine ⟨as ++ [b], by rw [upd_same, List.map_append]; rfl, Each.snoc ⟨h2.1, fun i a x e1 e2 => ?_⟩ ?_, fun h => ?_⟩
  · show upd _ _ _ _ = _
    rw [upd_ne fun e => h3 (by rw [← e]; exact List.mem_of_getElem? e1)]
    exact h2.2 i a x e1 e2
  · show upd _ _ _ _ = _
    rw [upd_ne n.symm]
    exact hb
  · rcases List.mem_append.mp h with h | h
    · exact h3 h
    · exact n (List.mem_singleton.mp h)
theorem each_app {α : Type} {P : Addr → α → Prop} {as bs : List Addr} {xs ys : List α} (h : Each P as xs) (g : Each P bs ys) : Each P (as ++ bs) (xs ++ ys) := by
  refine ⟨by rw [List.length_append, List.length_append, h.1, g.1], fun i a x h1 h2 => ?_⟩
  by_cases hi : i < as.length
  · rw [List.getElem?_append_left hi] at h1
    rw [List.getElem?_append_left (by rw [← h.1]; exact hi)] at h2
    exact h.2 i a x h1 h2
  · rw [List.getElem?_append_right (by omega)] at h1
    rw [List.getElem?_append_right (by rw [← h.1]; omega)] at h2
    rw [← h.1] at h2
    exact g.2 _ a x h1 h2
theorem flatten_take {bs : List (List Str)} {i : Nat} {x : List Str} (h : bs[i]? = some x) : (bs.take (i + 1)).flatten = (bs.take i).flatten ++ x := by
  rw [List.take_add_one, h, List.flatten_append]
  simp
theorem take_snoc {α β : Type} {f : α → β} {xs : List α} {i : Nat} {x : α} (h : xs[i]? = some x) : (xs.take (i + 1)).map f = (xs.take i).map f ++ [f x] := by
  rw [List.take_add_one, h, List.map_append]
  rfl
/-- all blocks of a frame -/
def blksF (F : Fm) : List (List Str) := F.clocks.map (clLines F.devices) ++ F.links.map (lkLines F.devices) ++ F.sources.map (srLines F.devices)
theorem blks_flat (F : Fm) : F.devices.map dvLine ++ (blksF F).flatten ++ ftLines F.faults = linesF F := by
  unfold blksF linesF
  simp only [List.flatten_append, List.flatMap_def, List.append_assoc]
theorem flatM_take {α : Type} {f : α → List Str} {xs : List α} {i : Nat} {x : α} (h : xs[i]? = some x) : (xs.take (i + 1)).flatMap f = (xs.take i).flatMap f ++ f x := by
  rw [List.take_add_one, h, List.flatMap_append]
  simp
end Vs

namespace Vs
open PySem PySem.Spec PyProof.Rows L2
/-- a property of a class of the text -/
structure Pr (K : PySem.W.Frag) (C : Addr) (x qual : Str) (st : Stmt) (ps : List Str) (f : Addr) (fd : FuncData) : Prop where
  F : Fun K x qual st f fd
  b : Binds K fd ps []
  m : ∃ p, PropOf K C x p f
theorem pe_propE {X : Cx} {CX : CXT} {k : Nat} {C g : Addr} {f : Str} {fd : FuncData} {ps : List Str} {sp : Sp} {dvs : List V} {ds : List Value} {E : XK} {e : Expr} {pos : Pos} {ta : TE}
    (he : PE X e ta) (c : Cls X.K C) (hp : ∃ p, PropOf X.K C f p g) (F : FnOk X.prog X.w X.K X.mg X.base CX k g fd ps sp) (hr : Room (k + 1) X.A) (hb : Binds X.K fd ps ds) (hd : Vals dvs ds) (hx : Passes CX X.nox E)
    (hab : attributeBase e f X.env (eval e X.env) = eval e X.env) : PE X (.Attribute e f pos) (tProp C sp dvs E ta) := by
  obtain ⟨p, hp⟩ := hp
  exact pe_prop he c hp F hr hb hd hx hab
/-- the beginning stands at aB -/
structure Begin (K : PySem.W.Frag) (mg : Str → Option Value) (aB : Addr) : Prop where
  m : mg "BEGINNING" = some (.ref aB)
  sq : ∀ H, SqT K H aB [.int (-1), .int 0]
theorem vne_int {a b : Int} (c : (!decide (V.int a = V.int b)) = true) : a ≠ b := fun e => by
  rw [e, decide_eq_true rfl] at c
  cases c
/-- the clocks of a device among the first n -/
def ckN (cs : List Cl) (j : Int) : Nat → List Int
  | 0 => []
  | n + 1 => ckN cs j n ++ (match cs[n]? with
    | some c => if c.dev = j then [(n : Int)] else []
    | none => [])
theorem ckN_yes {cs : List Cl} {j : Int} {n : Nat} {c : Cl} (h : cs[n]? = some c) (e : c.dev = j) : ckN cs j (n + 1) = ckN cs j n ++ [(n : Int)] := by
  rw [ckN, h]
  show _ ++ (if c.dev = j then _ else _) = _
  rw [if_pos e]
theorem ckN_no {cs : List Cl} {j : Int} {n : Nat} {c : Cl} (h : cs[n]? = some c) (e : c.dev ≠ j) : ckN cs j (n + 1) = ckN cs j n := by
  rw [ckN, h]
  show _ ++ (if c.dev = j then _ else _) = _
  rw [if_neg e, List.append_nil]
theorem ckN_len (cs : List Cl) (j : Int) : ∀ n, (ckN cs j n).length ≤ n
  | 0 => Nat.le_refl _
  | n + 1 => by
    have h := ckN_len cs j n
    rw [ckN, List.length_append]
    have : (match cs[n]? with
      | some c => if c.dev = j then [(n : Int)] else []
      | none => []).length ≤ 1 := by
      split
      · split
        · exact Nat.le_refl _
        · exact Nat.zero_le _
      · exact Nat.zero_le _
    omega
theorem ints_all {K : PySem.W.Frag} {H : Hp} : ∀ ns : List Int, DpAll K H (ns.map V.int) (ns.map PyData.int)
  | [] => .nil
  | s :: r => .cons (.int s) (ints_all r)
theorem ints_dp {K : PySem.W.Frag} {H : Hp} {a : Addr} {ns : List Int} (h : SqL K H a (ns.map V.int)) : Dp K H (.ref a) (.list (ns.map PyData.int)) := .lst h (ints_all ns)
theorem int_plain (i : Int) : (PyData.int i).plain = true := rfl
theorem int_depth (i : Int) : (PyData.int i).depth ≤ 8 := by simp [PyData.depth]
/-- a frame's four lists as data -/
def frP (F : Fm) : PyData := .list [.list (F.devices.map PyData.str), .list (F.clocks.map clP), .list (F.links.map lkP), .list (F.sources.map srP)]
theorem frP_plain (F : Fm) : (frP F).plain = true := by
  show ((PyData.list (F.devices.map PyData.str)).plain && ((PyData.list (F.clocks.map clP)).plain && ((PyData.list (F.links.map lkP)).plain && ((PyData.list (F.sources.map srP)).plain && true)))) = true
  have h2 : (PyData.list (F.clocks.map clP)).plain = true := all_plain cl_plain F.clocks
  have h3 : (PyData.list (F.links.map lkP)).plain = true := all_plain lk_plain F.links
  have h4 : (PyData.list (F.sources.map srP)).plain = true := all_plain sr_plain F.sources
  rw [strl_plain, h2, h3, h4]
  rfl
theorem frP_depth (F : Fm) : (frP F).depth ≤ 64 := by
  have h1 := strs_depth F.devices
  have h2 := all_depth cl_depth F.clocks
  have h3 := all_depth lk_depth F.links
  have h4 := all_depth sr_depth F.sources
  simp only [frP, PyData.depth, PyData.depthAll]
  omega
theorem frP_dp {K : PySem.W.Frag} {H : Hp} {a d c l s : Addr} {F : Fm} (h : SqL K H a [.ref d, .ref c, .ref l, .ref s]) (f : FmIn K H d c l s F) : Dp K H (.ref a) (frP F) := by
  obtain ⟨hd, ⟨ac, hc, h1⟩, ⟨al, hl, h2⟩, ⟨as, hs, h3⟩⟩ := f
  exact .lst h (.cons (strs_dp (SqL.of hd)) (.cons (.lst (SqL.of hc) (all_dp (fun _ _ z => cl_dp z) h1)) (.cons (.lst (SqL.of hl) (all_dp (fun _ _ z => lk_dp z) h2)) (.cons (.lst (SqL.of hs) (all_dp (fun _ _ z => sr_dp z) h3)) .nil))))
theorem FmIn.but {K : PySem.W.Frag} {H H' : Hp} {o d c l s : Addr} {xs : List V} {F : Fm} (e : But o H H') (ho : H o = some (.lst xs)) (nd : d ≠ o) (nc : c ≠ o) (nl : l ≠ o) (ns : s ≠ o) (h : FmIn K H d c l s F) : FmIn K H' d c l s F := by
  obtain ⟨h0, ⟨a1, h1, g1⟩, ⟨a2, h2, g2⟩, ⟨a3, h3, g3⟩⟩ := h
  exact ⟨e _ _ nd h0, ⟨a1, e _ _ nc h1, g1.keep fun _ _ z => z.but e ho⟩, ⟨a2, e _ _ nl h2, g2.keep fun _ _ z => z.but e ho⟩, ⟨a3, e _ _ ns h3, g3.keep fun _ _ z => z.but e ho⟩⟩
end Vs

namespace Vs
open PySem PySem.Spec PyProof.Rows L2
/-! ### tuples stay where they are -/
def TupK (H H' : Hp) : Prop := (∀ a xs, H a = some (.tup xs) → H' a = some (.tup xs)) ∧ ∀ a o xs, H a = some (.frz o (.tup xs)) → H' a = some (.frz o (.tup xs))
theorem TupK.refl (H : Hp) : TupK H H := ⟨fun _ _ h => h, fun _ _ _ h => h⟩
theorem TupK.trans {H H1 H2 : Hp} (a : TupK H H1) (b : TupK H1 H2) : TupK H H2 := ⟨fun c u h => b.1 c u (a.1 c u h), fun c o u h => b.2 c o u (a.2 c o u h)⟩
theorem TupK.of {H H' : Hp} (e : Same H H') : TupK H H' := ⟨fun _ _ h => e _ _ h, fun _ _ _ h => e _ _ h⟩
theorem TupK.but {H H' : Hp} {o : Addr} {xs : List V} (e : But o H H') (ho : H o = some (.lst xs)) : TupK H H' := ⟨fun _ _ h => e _ _ (ne_of h ho (by intro z; cases z)) h, fun _ _ _ h => e _ _ (ne_of h ho (by intro z; cases z)) h⟩
theorem TupK.new {H : Hp} {p : Addr} {o : HO} (h : H p = none) : TupK H (upd H p o) := TupK.of (same_upd h)
theorem TupK.set {H : Hp} {p : Addr} {xs : List V} {o : HO} (h : H p = some (.lst xs)) : TupK H (upd H p o) := TupK.but But.set h
theorem TupK.sq {K : PySem.W.Frag} {H H' : Hp} {a : Addr} {xs : List V} (e : TupK H H') (h : SqT K H a xs) : SqT K H' a xs := by
  rcases h with (h | ⟨ob, h⟩) | h
  · exact .inl (.inl (e.1 _ _ h))
  · exact .inl (.inr ⟨ob, e.2 _ _ _ h⟩)
  · exact .inr h
theorem fr {H H1 : Hp} {p : Addr} {o : HO} (e : upd H p o = H1) (n : H p = none) : Same H H1 ∧ H1 p = some o := by
  subst e
  exact ⟨same_upd n, upd_same⟩
theorem stt {H H1 : Hp} {p : Addr} {o : HO} (e : upd H p o = H1) : But p H H1 ∧ H1 p = some o := by
  subst e
  exact ⟨But.set, upd_same⟩
/-! ### data made of tuples -/
mutual
def Im (K : PySem.W.Frag) (H : Hp) : PyData → V → Prop
  | .none, v => v = .non
  | .bool b, v => v = .bl b
  | .int i, v => v = .int i
  | .str z, v => v = .str z
  | .tuple ds, v => ∃ a vs, v = .ref a ∧ SqT K H a vs ∧ ImL K H ds vs
  | .list _, _ => False
  | .dict _, _ => False
def ImL (K : PySem.W.Frag) (H : Hp) : List PyData → List V → Prop
  | [], vs => vs = []
  | d :: ds, vs => ∃ v r, vs = v :: r ∧ Im K H d v ∧ ImL K H ds r
end
section
variable {K : PySem.W.Frag} {H H' : Hp}
mutual
theorem Im.mono (e : TupK H H') : ∀ (d : PyData) {v : V}, Im K H d v → Im K H' d v
  | .none, _, h => by rw [Im] at h ⊢; exact h
  | .bool _, _, h => by rw [Im] at h ⊢; exact h
  | .int _, _, h => by rw [Im] at h ⊢; exact h
  | .str _, _, h => by rw [Im] at h ⊢; exact h
  | .tuple ds, _, h => by
    rw [Im] at h ⊢
    obtain ⟨a, vs, h1, h2, h3⟩ := h
    exact ⟨a, vs, h1, e.sq h2, ImL.mono e ds h3⟩
  | .list _, _, h => by rw [Im] at h; exact h.elim
  | .dict _, _, h => by rw [Im] at h; exact h.elim
theorem ImL.mono (e : TupK H H') : ∀ (ds : List PyData) {vs : List V}, ImL K H ds vs → ImL K H' ds vs
  | [], _, h => by rw [ImL] at h ⊢; exact h
  | d :: ds, _, h => by
    rw [ImL] at h ⊢
    obtain ⟨v, r, h1, h2, h3⟩ := h
    exact ⟨v, r, h1, Im.mono e d h2, ImL.mono e ds h3⟩
end
mutual
theorem Im.dp : ∀ (d : PyData) {v : V}, Im K H d v → Dp K H v d
  | .none, _, h => by rw [Im] at h; rw [h]; exact .non
  | .bool _, _, h => by rw [Im] at h; rw [h]; exact .bl _
  | .int _, _, h => by rw [Im] at h; rw [h]; exact .int _
  | .str _, _, h => by rw [Im] at h; rw [h]; exact .str _
  | .tuple ds, _, h => by
    rw [Im] at h
    obtain ⟨a, vs, rfl, h2, h3⟩ := h
    exact .tup h2 (ImL.dp ds h3)
  | .list _, _, h => by rw [Im] at h; exact h.elim
  | .dict _, _, h => by rw [Im] at h; exact h.elim
theorem ImL.dp : ∀ (ds : List PyData) {vs : List V}, ImL K H ds vs → DpAll K H vs ds
  | [], _, h => by rw [ImL] at h; rw [h]; exact .nil
  | d :: ds, _, h => by
    rw [ImL] at h
    obtain ⟨v, r, rfl, h2, h3⟩ := h
    exact .cons (Im.dp d h2) (ImL.dp ds h3)
end
mutual
theorem Im.plain : ∀ (d : PyData) {v : V}, Im K H d v → d.plain = true
  | .none, _, h => rfl
  | .bool _, _, h => rfl
  | .int _, _, h => rfl
  | .str _, _, h => rfl
  | .tuple ds, _, h => by
    rw [Im] at h
    obtain ⟨a, vs, rfl, h2, h3⟩ := h
    exact ImL.plain ds h3
  | .list _, _, h => by rw [Im] at h; exact h.elim
  | .dict _, _, h => by rw [Im] at h; exact h.elim
theorem ImL.plain : ∀ (ds : List PyData) {vs : List V}, ImL K H ds vs → PyData.plainAll ds = true
  | [], _, h => rfl
  | d :: ds, _, h => by
    rw [ImL] at h
    obtain ⟨v, r, rfl, h2, h3⟩ := h
    show (d.plain && PyData.plainAll ds) = true
    rw [Im.plain d h2, ImL.plain ds h3]
    rfl
end
theorem Im.int_ {i : Int} : Im K H (.int i) (.int i) := by rw [Im]
theorem Im.bl_ {b : Bool} : Im K H (.bool b) (.bl b) := by rw [Im]
theorem Im.str_ {z : Str} : Im K H (.str z) (.str z) := by rw [Im]
theorem Im.non_ : Im K H .none .non := by rw [Im]
theorem Im.tup_ {a : Addr} {vs : List V} {ds : List PyData} (h : SqT K H a vs) (e : ImL K H ds vs) : Im K H (.tuple ds) (.ref a) := by rw [Im]; exact ⟨a, vs, rfl, h, e⟩
theorem Im.unt {ds : List PyData} {v : V} (h : Im K H (.tuple ds) v) : ∃ a vs, v = .ref a ∧ SqT K H a vs ∧ ImL K H ds vs := by rw [Im] at h; exact h
theorem Im.uni {i : Int} {v : V} (h : Im K H (.int i) v) : v = .int i := by rw [Im] at h; exact h
theorem Im.unn {v : V} (h : Im K H .none v) : v = .non := by rw [Im] at h; exact h
theorem ImL.nil_ : ImL K H [] [] := by rw [ImL]
theorem ImL.cons_ {d : PyData} {ds : List PyData} {v : V} {vs : List V} (h : Im K H d v) (t : ImL K H ds vs) : ImL K H (d :: ds) (v :: vs) := by rw [ImL]; exact ⟨_, _, rfl, h, t⟩
theorem ImL.unc {d : PyData} {ds : List PyData} {vs : List V} (h : ImL K H (d :: ds) vs) : ∃ v r, vs = v :: r ∧ Im K H d v ∧ ImL K H ds r := by rw [ImL] at h; exact h
theorem ImL.unn {vs : List V} (h : ImL K H [] vs) : vs = [] := by rw [ImL] at h; exact h
theorem ImL.len : ∀ {ds : List PyData} {vs : List V}, ImL K H ds vs → vs.length = ds.length
  | [], _, h => by rw [h.unn]; rfl
  | d :: ds, _, h => by
    obtain ⟨v, r, rfl, _, h2⟩ := h.unc
    rw [List.length_cons, List.length_cons, ImL.len h2]
theorem ImL.get : ∀ {ds : List PyData} {vs : List V} {i : Nat} {d : PyData}, ImL K H ds vs → ds[i]? = some d → ∃ v, vs[i]? = some v ∧ Im K H d v
  | d :: ds, _, 0, _, h, hi => by
    obtain ⟨v, r, rfl, h1, _⟩ := h.unc
    cases hi
    exact ⟨v, rfl, h1⟩
  | d :: ds, _, i + 1, e, h, hi => by
    obtain ⟨v, r, rfl, _, h2⟩ := h.unc
    exact ImL.get (i := i) h2 hi
  | [], _, _, _, _, hi => by simp at hi
theorem ImL.get' : ∀ {ds : List PyData} {vs : List V} {i : Nat} {v : V}, ImL K H ds vs → vs[i]? = some v → ∃ d, ds[i]? = some d ∧ Im K H d v := fun {ds vs i v} h hi => by
  have hl := h.len
  have hi' := (List.getElem?_eq_some_iff.mp hi).1
  have e : ds[i]? = some (ds[i]'(by omega)) := List.getElem?_eq_getElem (by omega)
  obtain ⟨w, h1, h2⟩ := h.get e
  rw [hi] at h1
  cases h1
  exact ⟨_, e, h2⟩
theorem ImL.app : ∀ {ds es : List PyData} {vs ws : List V}, ImL K H ds vs → ImL K H es ws → ImL K H (ds ++ es) (vs ++ ws)
  | [], _, _, _, h, g => by rw [h.unn]; exact g
  | d :: ds, _, _, _, h, g => by
    obtain ⟨v, r, rfl, h1, h2⟩ := h.unc
    exact ImL.cons_ h1 (ImL.app h2 g)
theorem ImL.snoc {ds : List PyData} {d : PyData} {vs : List V} {v : V} (h : ImL K H ds vs) (g : Im K H d v) : ImL K H (ds ++ [d]) (vs ++ [v]) := h.app (ImL.cons_ g ImL.nil_)
theorem ImL.ints : ∀ {ns : List Int}, ImL K H (ns.map PyData.int) (ns.map V.int)
  | [] => ImL.nil_
  | n :: r => ImL.cons_ Im.int_ ImL.ints
theorem ImL.uints : ∀ {ns : List Int} {vs : List V}, ImL K H (ns.map PyData.int) vs → vs = ns.map V.int
  | [], _, h => h.unn
  | n :: r, _, h => by
    obtain ⟨v, r, rfl, h1, h2⟩ := h.unc
    rw [h1.uni, h2.uints]
    rfl
/-- a list of such data, one that may change -/
def LsI (K : PySem.W.Frag) (H : Hp) (a : Addr) (ds : List PyData) : Prop := ∃ vs, H a = some (.lst vs) ∧ ImL K H ds vs
theorem LsI.keep {a ds} (e : Same H H') (h : LsI K H a ds) : LsI K H' a ds := by
  obtain ⟨vs, h1, h2⟩ := h
  exact ⟨vs, e _ _ h1, ImL.mono (.of e) _ h2⟩
theorem LsI.but {a ds} {o : Addr} {xs : List V} (e : But o H H') (ho : H o = some (.lst xs)) (n : a ≠ o) (h : LsI K H a ds) : LsI K H' a ds := by
  obtain ⟨vs, h1, h2⟩ := h
  exact ⟨vs, e _ _ n h1, ImL.mono (.but e ho) _ h2⟩
theorem LsI.lst {a ds} (h : LsI K H a ds) : ∃ xs, H a = some (.lst xs) := by
  obtain ⟨vs, h1, h2⟩ := h
  exact ⟨vs, h1⟩
theorem LsI.dp {a ds} (h : LsI K H a ds) : Dp K H (.ref a) (.list ds) := by
  obtain ⟨vs, h1, h2⟩ := h
  exact .lst (SqL.of h1) h2.dp
theorem LsI.plain {a ds} (h : LsI K H a ds) : (PyData.list ds).plain = true := by
  obtain ⟨vs, h1, h2⟩ := h
  exact h2.plain
theorem LsI.snoc {a ds d v} (h : LsI K H a ds) (g : Im K H d v) : ∃ vs, H a = some (.lst vs) ∧ vs.length = ds.length ∧ LsI K (upd H a (.lst (vs ++ [v]))) a (ds ++ [d]) := by
  obtain ⟨vs, h1, h2⟩ := h
  exact ⟨vs, h1, h2.len, _, upd_same, ImL.mono (.set h1) _ (h2.snoc g)⟩
/-- what == of two equal lists asks -/
theorem LsI.eqP {a b ds} {Q : VK} (h : LsI K H a ds) (g : LsI K H b ds) (hd : (PyData.list ds).depth ≤ 64) (q : Q (.bl true) H) : rEqP K (.ref a) (.ref b) H Q := by
  refine ⟨_, _, h.dp, g.dp, h.plain, g.plain, hd, ?_⟩
  rw [SeqAt.eqv_refl_plain _ h.plain]
  exact q
theorem LsI.neP {a b ds} {Q : VK} (h : LsI K H a ds) (g : LsI K H b ds) (hd : (PyData.list ds).depth ≤ 64) (q : Q (.bl false) H) : rNeP K (.ref a) (.ref b) H Q := by
  refine ⟨_, _, h.dp, g.dp, h.plain, g.plain, hd, ?_⟩
  rw [SeqAt.eqv_refl_plain _ h.plain]
  exact q
end
theorem ldepth {α : Type} {f : α → PyData} {n : Nat} (h : ∀ x, (f x).depth ≤ n) (xs : List α) : (PyData.list (xs.map f)).depth ≤ n + 1 := by
  have := all_depth h xs
  simp only [PyData.depth]
  omega
/-! ### points and bounds -/
structure Pt where
  d : Int
  n : Int
  c : Int
deriving DecidableEq
structure Bd where
  one : Pt
  two : Pt
  amount : Int
  part : Int
deriving DecidableEq
def ptP (p : Pt) : PyData := .tuple [.int p.d, .int p.n, .int p.c]
def bdP (b : Bd) : PyData := .tuple [ptP b.one, ptP b.two, .int b.amount, .int b.part]
theorem pt_depth (p : Pt) : (ptP p).depth ≤ 3 := by simp [ptP, PyData.depth, PyData.depthAll]
theorem bd_depth (b : Bd) : (bdP b).depth ≤ 5 := by
  have h1 := pt_depth b.one
  have h2 := pt_depth b.two
  simp only [bdP, PyData.depth, PyData.depthAll]
  omega
theorem bds_depth (bs : List Bd) : (PyData.list (bs.map bdP)).depth ≤ 64 := Nat.le_trans (ldepth bd_depth bs) (by decide)
theorem pts_depth (bs : List Pt) : (PyData.list (bs.map ptP)).depth ≤ 64 := Nat.le_trans (ldepth pt_depth bs) (by decide)
section
variable {K : PySem.W.Frag} {H : Hp}
theorem Im.unpt {p : Pt} {v : V} (h : Im K H (ptP p) v) : ∃ a, v = .ref a ∧ SqT K H a [.int p.d, .int p.n, .int p.c] := by
  obtain ⟨a, vs, h1, h2, h3⟩ := Im.unt h
  have e := ImL.uints (ns := [p.d, p.n, p.c]) h3
  exact ⟨a, h1, by rw [e] at h2; exact h2⟩
theorem Im.unbd {b : Bd} {v : V} (h : Im K H (bdP b) v) : ∃ a x y, v = .ref a ∧ SqT K H a [x, y, .int b.amount, .int b.part] ∧ Im K H (ptP b.one) x ∧ Im K H (ptP b.two) y := by
  obtain ⟨a, vs, h1, h2, h3⟩ := Im.unt h
  obtain ⟨x, r, rfl, hx, h3⟩ := h3.unc
  obtain ⟨y, r, rfl, hy, h3⟩ := h3.unc
  have e := ImL.uints (ns := [b.amount, b.part]) h3
  exact ⟨a, x, y, h1, by rw [e] at h2; exact h2, hx, hy⟩
theorem ptI {a : Addr} {p : Pt} (h : SqT K H a [.int p.d, .int p.n, .int p.c]) : Im K H (ptP p) (.ref a) := Im.tup_ h (ImL.ints (ns := [p.d, p.n, p.c]))
theorem bdI {a : Addr} {b : Bd} {x y : V} (h : SqT K H a [x, y, .int b.amount, .int b.part]) (hx : Im K H (ptP b.one) x) (hy : Im K H (ptP b.two) y) : Im K H (bdP b) (.ref a) := Im.tup_ h (ImL.cons_ hx (ImL.cons_ hy (ImL.ints (ns := [b.amount, b.part]))))
end
theorem map_get {α : Type} {f : α → PyData} {xs : List α} {i : Nat} {d : PyData} (h : (xs.map f)[i]? = some d) : ∃ x, xs[i]? = some x ∧ d = f x := by
  rw [List.getElem?_map] at h
  cases e : xs[i]? with
  | none => rw [e] at h; cases h
  | some x => rw [e] at h; exact ⟨x, rfl, (Option.some.inj h).symm⟩
/-! ### the drawn rows, n of them -/
def RwAt (H : Hp) (r : Addr) (n : Nat) : Prop := ∃ ns : List Int, H r = some (.lst (ns.map V.int)) ∧ ns.length = n
theorem RwAt.lst {H : Hp} {r : Addr} {n : Nat} (h : RwAt H r n) : ∃ xs, H r = some (.lst xs) := by
  obtain ⟨ns, h, _⟩ := h
  exact ⟨_, h⟩
theorem RwAt.keep {H H' : Hp} {r : Addr} {n : Nat} (e : Same H H') (h : RwAt H r n) : RwAt H' r n := by
  obtain ⟨ns, h, h2⟩ := h
  exact ⟨ns, e _ _ h, h2⟩
theorem RwAt.but {H H' : Hp} {r o : Addr} {n : Nat} (e : But o H H') (ne : r ≠ o) (h : RwAt H r n) : RwAt H' r n := by
  obtain ⟨ns, h, h2⟩ := h
  exact ⟨ns, e _ _ ne h, h2⟩
theorem RwAt.tk {H H' : Hp} {r : Addr} {n : Nat} (h : RwAt H r n) (e : But r H H') : TupK H H' := by
  obtain ⟨xs, h⟩ := h.lst
  exact TupK.but e h
theorem RwAt.ne {H : Hp} {r p : Addr} {n : Nat} (h : RwAt H r n) (e : H p = none) : p ≠ r := by
  obtain ⟨xs, h⟩ := h.lst
  exact (ne_of_none h e).symm
theorem inV_int (p : Int) (ns : List Int) : inV (.int p) (ns.map V.int) = ns.contains p := by
  unfold inV
  induction ns with
  | nil => rfl
  | cons a r ih =>
    rw [List.map_cons, List.any_cons, ih, List.contains_cons]
    show ((a == p) || r.contains p) = _
    rw [Bool.beq_comm]
theorem flat_ints : ∀ ns : List Int, (ns.map V.int).all flatV = true
  | [] => rfl
  | n :: r => by
    show (true && (r.map V.int).all flatV) = true
    rw [flat_ints r]
    rfl
theorem list_at {K : PySem.W.Frag} {H : Hp} {ds : List PyData} {vs : List V} {j : Int} (h : ImL K H ds vs) (h0 : 0 ≤ j) (h1 : j < (ds.length : Int)) : ∃ d v, ds[j.toNat]? = some d ∧ atI vs j = some v ∧ Im K H d v := by
  have hi : j.toNat < ds.length := by omega
  have e : ds[j.toNat]? = some ds[j.toNat] := List.getElem?_eq_getElem hi
  obtain ⟨v, h2, h3⟩ := h.get e
  exact ⟨_, v, e, at_of (j := j.toNat) (by omega) h2, h3⟩
end Vs

namespace Vs
open PySem PySem.Spec PyProof.Rows L2
/-! ### events, hands as data -/
structure HdM where
  pt : Option Pt
  shown : Int
  kind : Int
def opP : Option Pt → PyData
  | none => .none
  | some p => ptP p
def hdP (h : HdM) : PyData := .tuple [opP h.pt, .int h.shown, .int h.kind]
def intsP (ns : List Int) : PyData := .tuple (ns.map .int)
def ddP (d : Dd) : PyData := .tuple (.str (deedNames.getD d.place Str.empty) :: (if d.place = 8 then [intsP d.nums] else d.nums.map .int))
def evP (e : Ev) : PyData := .tuple [.bool e.asleep, intsP e.shown, intsP e.after, ddP e.deed, intsP e.knows]
theorem ints_depth (ns : List Int) : (intsP ns).depth ≤ 3 := by
  have := all_depth (f := PyData.int) (n := 1) (fun x => by simp [PyData.depth]) ns
  simp only [intsP, PyData.depth]
  omega
theorem dd_depth (d : Dd) : (ddP d).depth ≤ 6 := by
  have h1 := ints_depth d.nums
  have h2 := all_depth (f := PyData.int) (n := 1) (fun x => by simp [PyData.depth]) d.nums
  unfold ddP
  split
  · simp only [PyData.depth, PyData.depthAll]
    omega
  · simp only [PyData.depth, PyData.depthAll]
    omega
theorem ev_depth (e : Ev) : (evP e).depth ≤ 8 := by
  have h1 := ints_depth e.shown
  have h2 := ints_depth e.after
  have h3 := dd_depth e.deed
  have h4 := ints_depth e.knows
  simp only [evP, PyData.depth, PyData.depthAll]
  omega
theorem op_depth (o : Option Pt) : (opP o).depth ≤ 3 := by
  cases o with
  | none => simp [opP, PyData.depth]
  | some p => exact pt_depth p
theorem hd_depth (h : HdM) : (hdP h).depth ≤ 5 := by
  have := op_depth h.pt
  simp only [hdP, PyData.depth, PyData.depthAll]
  omega
theorem evs_depth (es : List Ev) : (PyData.list (es.map evP)).depth ≤ 64 := Nat.le_trans (ldepth ev_depth es) (by decide)
theorem hds_depth (es : List HdM) : (PyData.list (es.map hdP)).depth ≤ 64 := Nat.le_trans (ldepth hd_depth es) (by decide)
section
variable {K : PySem.W.Frag} {H : Hp}
theorem Im.uns {z : Str} {v : V} (h : Im K H (.str z) v) : v = .str z := by rw [Im] at h; exact h
theorem Im.unb {b : Bool} {v : V} (h : Im K H (.bool b) v) : v = .bl b := by rw [Im] at h; exact h
theorem Im.unints {ns : List Int} {v : V} (h : Im K H (intsP ns) v) : ∃ a, v = .ref a ∧ TupI K H a ns := by
  obtain ⟨a, vs, rfl, h2, h3⟩ := Im.unt h
  rw [h3.uints] at h2
  exact ⟨a, rfl, h2⟩
theorem intsI {ns : List Int} {a : Addr} (h : TupI K H a ns) : Im K H (intsP ns) (.ref a) := Im.tup_ h ImL.ints
theorem Im.unhd {h : HdM} {v : V} (g : Im K H (hdP h) v) : ∃ a x, v = .ref a ∧ SqT K H a [x, .int h.shown, .int h.kind] ∧ Im K H (opP h.pt) x := by
  obtain ⟨a, vs, h1, h2, h3⟩ := Im.unt g
  obtain ⟨x, r, rfl, hx, h3⟩ := h3.unc
  have e := ImL.uints (ns := [h.shown, h.kind]) h3
  exact ⟨a, x, h1, by rw [e] at h2; exact h2, hx⟩
theorem hdI {h : HdM} {a : Addr} {x : V} (g : SqT K H a [x, .int h.shown, .int h.kind]) (i : Im K H (opP h.pt) x) : Im K H (hdP h) (.ref a) := Im.tup_ g (ImL.cons_ i (ImL.ints (ns := [h.shown, h.kind])))
theorem Im.unev {e : Ev} {v : V} (g : Im K H (evP e) v) : ∃ a p q d r, v = .ref a ∧ SqT K H a [.bl e.asleep, p, q, d, r] ∧ Im K H (intsP e.shown) p ∧ Im K H (intsP e.after) q ∧ Im K H (ddP e.deed) d ∧ Im K H (intsP e.knows) r := by
  obtain ⟨a, vs, h1, h2, h3⟩ := Im.unt g
  obtain ⟨x, r, rfl, hx, h3⟩ := h3.unc
  obtain ⟨p, r, rfl, hp, h3⟩ := h3.unc
  obtain ⟨q, r, rfl, hq, h3⟩ := h3.unc
  obtain ⟨d, r, rfl, hd, h3⟩ := h3.unc
  obtain ⟨k, r, rfl, hk, h3⟩ := h3.unc
  have e := h3.unn
  rw [e, hx.unb] at h2
  exact ⟨a, p, q, d, k, h1, h2, hp, hq, hd, hk⟩
theorem evI {e : Ev} {a : Addr} {p q d r : V} (h : SqT K H a [.bl e.asleep, p, q, d, r]) (h1 : Im K H (intsP e.shown) p) (h2 : Im K H (intsP e.after) q) (h3 : Im K H (ddP e.deed) d) (h4 : Im K H (intsP e.knows) r) : Im K H (evP e) (.ref a) :=
  Im.tup_ h (ImL.cons_ Im.bl_ (ImL.cons_ h1 (ImL.cons_ h2 (ImL.cons_ h3 (ImL.cons_ h4 ImL.nil_)))))
theorem dn_getD {p : Nat} (h : p < 9) : deedNames[p]? = some (deedNames.getD p Str.empty) := by
  rw [List.getD_eq_getElem?_getD, List.getElem?_eq_getElem (by rw [dn_len]; exact h)]
  rfl
/-- a deed's tuple: its name, then the rest -/
theorem Im.undd {d : Dd} {v : V} (h8 : d.place < 9) (g : Im K H (ddP d) v) : ∃ a z rest, v = .ref a ∧ deedNames[d.place]? = some z ∧ SqT K H a (.str z :: rest) ∧ ((d.place = 8 ∧ ∃ b, rest = [.ref b] ∧ TupI K H b d.nums) ∨ (d.place ≠ 8 ∧ rest = d.nums.map V.int)) := by
  obtain ⟨a, vs, h1, h2, h3⟩ := Im.unt g
  obtain ⟨x, r, rfl, hx, h3⟩ := h3.unc
  rw [hx.uns] at h2
  refine ⟨a, _, r, h1, dn_getD h8, h2, ?_⟩
  by_cases e : d.place = 8
  · rw [if_pos e] at h3
    obtain ⟨y, s, rfl, hy, h4⟩ := h3.unc
    obtain ⟨b, rfl, hb⟩ := hy.unints
    have e2 := h4.unn
    exact .inl ⟨e, b, by rw [e2], hb⟩
  · rw [if_neg e] at h3
    exact .inr ⟨e, h3.uints⟩
theorem ddI {d : Dd} {a : Addr} {z : Str} (hz : deedNames[d.place]? = some z) (h8 : d.place ≠ 8) (h : SqT K H a (.str z :: d.nums.map V.int)) : Im K H (ddP d) (.ref a) := by
  unfold ddP
  rw [if_neg h8, List.getD_eq_getElem?_getD, hz]
  exact Im.tup_ h (ImL.cons_ Im.str_ ImL.ints)
theorem ddI8 {d : Dd} {a b : Addr} (h8 : d.place = 8) (h : SqT K H a [.str "anew", .ref b]) (g : TupI K H b d.nums) : Im K H (ddP d) (.ref a) := by
  unfold ddP
  rw [if_pos h8, h8]
  exact Im.tup_ h (ImL.cons_ Im.str_ (ImL.cons_ (intsI g) ImL.nil_))
end
theorem dn_is {p q : Nat} {z w : Str} (h : deedNames[p]? = some z) (g : deedNames[q]? = some w) : decide (V.str z = V.str w) = decide (p = q) := by
  by_cases e : p = q
  · subst e
    rw [h] at g
    cases g
    rw [decide_eq_true rfl, decide_eq_true rfl]
  · rw [decide_eq_false e]
    refine decide_eq_false fun x => e ?_
    injection x with x
    subst x
    exact nd_ix dn_nodup h g
/-! ### what bounds an event has -/
def kdOf (ks : List Kd) (j : Int) : Kd := ks.getD j.toNat ⟨Str.empty, 0, some 0⟩
def hiOf (k : Kd) : Int := k.high.getD 0
def ftl (a b : Pt) (lo hi part : Int) : List Bd := [⟨a, b, hi, part⟩, ⟨b, a, -lo, part⟩]
def sinceM (goes : Bool) (e : Ev) (h : HdM) : Option Pt := if (decide (e.deed.place = 8) || (e.asleep && !goes)) = true then none else h.pt
def clockM (C : Cl) (c dev n : Int) (e : Ev) (s : Int) (h : HdM) : List Bd :=
  match sinceM C.goes e h with
  | none => ftl ⟨dev, n, c⟩ ⟨dev, n, -1⟩ 0 (hiOf (kdOf C.kinds h.kind)) c
  | some t => if s - h.shown = 0 then ftl t ⟨dev, n, -1⟩ 0 (hiOf (kdOf C.kinds h.kind)) c else
      ftl t ⟨dev, n, c⟩ ((kdOf C.kinds h.kind).low * (s - h.shown)) (hiOf (kdOf C.kinds h.kind) * (s - h.shown)) c ++ [⟨⟨dev, n, c⟩, t, -0, c⟩] ++ [⟨⟨dev, n, c⟩, ⟨dev, n - 1, -1⟩, -((kdOf C.kinds h.kind).low * (s - h.shown - 1)), c⟩] ++ ftl ⟨dev, n, c⟩ ⟨dev, n, -1⟩ 0 (hiOf (kdOf C.kinds h.kind)) c
def givenM (d : Dd) (c : Int) (i : Nat) : Option Int := if d.place = 8 then d.nums[i]? else if d.place = 1 ∧ d.nums[0]? = some c then d.nums[1]? else none
def handM (C : Cl) (c dev n : Int) (e : Ev) (i : Nat) (h : HdM) : HdM :=
  match givenM e.deed c i with
  | some k => ⟨some ⟨dev, n, -1⟩, e.after.getD i 0, k⟩
  | none => if e.after.getD i 0 ≠ e.shown.getD i 0 then ⟨some ⟨dev, n, -1⟩, e.after.getD i 0, h.kind⟩ else
      if (sinceM C.goes e h).isSome = true ∧ e.shown.getD i 0 = h.shown then h else ⟨some ⟨dev, n, c⟩, e.shown.getD i 0, h.kind⟩
def srOf (F : Fm) (j : Int) : Sr := F.sources.getD j.toNat ⟨Str.empty, 0, []⟩
def lkOf (F : Fm) (j : Int) : Lk := F.links.getD j.toNat ⟨Str.empty, 0, 0, []⟩
def clOf (F : Fm) (j : Int) : Cl := F.clocks.getD j.toNat ⟨Str.empty, 0, false, []⟩
def stP : Pt := ⟨-1, 0, -1⟩
def markM (F : Fm) (here : Pt) (d : Dd) : List Bd :=
  ftl stP here (d.nums.getD 2 0 - (kdOf (srOf F (d.nums.getD 0 0)).kinds (d.nums.getD 1 0)).low) (d.nums.getD 2 0 + hiOf (kdOf (srOf F (d.nums.getD 0 0)).kinds (d.nums.getD 1 0))) ((F.clocks.length : Int) + F.links.length + d.nums.getD 0 0)
def hearM (F : Fm) (here : Pt) (d : Dd) (k : Option Int) : List Bd :=
  let w : Pt := ⟨(lkOf F (d.nums.getD 0 0)).s, d.nums.getD 1 0, -1⟩
  [⟨here, w, -0, -1⟩] ++ match k with
    | none => []
    | some j => [⟨here, w, -(kdOf (lkOf F (d.nums.getD 0 0)).kinds j).low, (F.clocks.length : Int) + d.nums.getD 0 0⟩] ++ match (kdOf (lkOf F (d.nums.getD 0 0)).kinds j).high with
      | none => []
      | some m => [⟨w, here, m, (F.clocks.length : Int) + d.nums.getD 0 0⟩]
def cks (F : Fm) (dev : Int) : List Int := ckN F.clocks dev F.clocks.length
def dfH : HdM := ⟨none, 0, 0⟩
def cB (F : Fm) (dev n : Int) (e : Ev) (hs : List HdM) (i : Nat) : List Bd := clockM (clOf F ((cks F dev).getD i 0)) ((cks F dev).getD i 0) dev n e (e.shown.getD i 0) (hs.getD i dfH)
def cH (F : Fm) (dev n : Int) (e : Ev) (hs : List HdM) (i : Nat) : HdM := handM (clOf F ((cks F dev).getD i 0)) ((cks F dev).getD i 0) dev n e i (hs.getD i dfH)
def restM (F : Fm) (here : Pt) (d : Dd) (k : Option Int) : List Bd := if d.place = 2 then markM F here d else if d.place = 5 then hearM F here d k else []
def evB (F : Fm) (dev n : Int) (e : Ev) (hs : List HdM) (k : Option Int) : List Bd :=
  [⟨⟨dev, n, -1⟩, ⟨dev, n - 1, -1⟩, -0, -1⟩] ++ (List.range (cks F dev).length).flatMap (cB F dev n e hs) ++ restM F ⟨dev, n, -1⟩ e.deed k
def evH (F : Fm) (dev n : Int) (e : Ev) (hs : List HdM) : List HdM := (List.range (cks F dev).length).map (cH F dev n e hs)
/-! ### what is asked of them -/
structure ClK (C : Cl) : Prop where
  len : C.kinds.length ≤ 4
  lo : ∀ k ∈ C.kinds, In18 k.low
  hi : ∀ k ∈ C.kinds, ∃ h, k.high = some h ∧ In18 h
def Six (ks : List Kd) (j : Int) : Prop := 0 ≤ j ∧ j < (ks.length : Int)
/-- a kind of a clock, as its rules need it -/
structure KdC (k : Kd) : Prop where
  lo : In18 k.low
  hi : ∃ h, k.high = some h ∧ In18 h
/-- a device's event that fits the frame and the hands before it -/
structure EvFit (F : Fm) (dev : Int) (e : Ev) (hs : List HdM) (k : Option Int) : Prop where
  pl : e.deed.place < 9
  sh : e.shown.length = (cks F dev).length
  af : e.after.length = (cks F dev).length
  hl : hs.length = (cks F dev).length
  ar : e.deed.place ≠ 8 → e.deed.nums.length = arity e.deed.place
  an : e.deed.place = 8 → e.deed.nums.length = (cks F dev).length
  ma : e.deed.place = 2 → 0 ≤ e.deed.nums.getD 0 0 ∧ e.deed.nums.getD 0 0 < F.sources.length ∧ Six (srOf F (e.deed.nums.getD 0 0)).kinds (e.deed.nums.getD 1 0) ∧ (kdOf (srOf F (e.deed.nums.getD 0 0)).kinds (e.deed.nums.getD 1 0)).high.isSome = true
  hr : e.deed.place = 5 → 0 ≤ e.deed.nums.getD 0 0 ∧ e.deed.nums.getD 0 0 < F.links.length ∧ ∀ j, k = some j → Six (lkOf F (e.deed.nums.getD 0 0)).kinds j
  kc : ∀ i : Nat, i < (cks F dev).length → KdC (kdOf (clOf F ((cks F dev).getD i 0)).kinds (hs.getD i dfH).kind)
  kd : ∀ i : Nat, i < (cks F dev).length → Six (clOf F ((cks F dev).getD i 0)).kinds (hs.getD i dfH).kind
theorem ckN_in {cs : List Cl} {j : Int} : ∀ {n : Nat} {c : Int}, n ≤ cs.length → c ∈ ckN cs j n → 0 ≤ c ∧ c < (n : Int) := by
  intro n
  induction n with
  | zero => intro c _ h; simp [ckN] at h
  | succ n ih =>
    intro c hn h
    have hi : n < cs.length := hn
    by_cases e : cs[n].dev = j
    · rw [ckN_yes (List.getElem?_eq_getElem hi) e] at h
      rcases List.mem_append.mp h with h | h
      · have := ih (by omega) h
        omega
      · rw [List.mem_singleton.mp h]
        omega
    · rw [ckN_no (List.getElem?_eq_getElem hi) e] at h
      have := ih (by omega) h
      omega
theorem cks_in {F : Fm} {dev : Int} {i : Nat} (h : i < (cks F dev).length) : 0 ≤ (cks F dev).getD i 0 ∧ (cks F dev).getD i 0 < (F.clocks.length : Int) := by
  have e : (cks F dev).getD i 0 = (cks F dev)[i] := by rw [List.getD_eq_getElem?_getD, List.getElem?_eq_getElem h]; rfl
  rw [e]
  exact ckN_in (Nat.le_refl _) (List.getElem_mem h)
theorem getD_at {α : Type} {xs : List α} {d : α} {j : Int} (h0 : 0 ≤ j) (h1 : j < (xs.length : Int)) : xs[j.toNat]? = some (xs.getD j.toNat d) := by
  rw [List.getD_eq_getElem?_getD, List.getElem?_eq_getElem (by omega)]
  rfl
theorem getD_ix {α : Type} {xs : List α} {d : α} {i : Nat} (h1 : i < xs.length) : xs[i]? = some (xs.getD i d) := by
  rw [List.getD_eq_getElem?_getD, List.getElem?_eq_getElem h1]
  rfl
/-- a tuple of ints of the module's top -/
structure TupC (K : PySem.W.Frag) (mg : Str → Option Value) (x : Str) (a : Addr) (ns : List Int) : Prop where
  m : mg x = some (.ref a)
  sq : ∀ H, SqT K H a (ns.map V.int)
theorem Same.free {H H' : Hp} {a : Addr} (s : Same H H') (h : H' a = none) : H a = none := by
  cases e : H a with
  | none => rfl
  | some w => rw [s _ _ e] at h; cases h
section
variable {K : PySem.W.Frag} {H : Hp}
theorem Im.unks {ks : List Kd} {v : V} (h : Im K H (ksP ks) v) : ∃ a vs, v = .ref a ∧ SqT K H a vs ∧ ImL K H (ks.map kdP) vs := Im.unt h
theorem Im.unkd {k : Kd} {v : V} (h : Im K H (kdP k) v) : ∃ a, v = .ref a ∧ SqT K H a [.str k.name, .int k.low, hiV k.high] := by
  obtain ⟨a, vs, h1, h2, h3⟩ := Im.unt h
  obtain ⟨x, r, rfl, hx, h4⟩ := h3.unc
  obtain ⟨y, r, rfl, hy, h5⟩ := h4.unc
  obtain ⟨z, r, rfl, hz, h6⟩ := h5.unc
  have e := h6.unn
  have ez : z = hiV k.high := by
    cases eh : k.high with
    | none => rw [eh] at hz; exact Im.unn hz
    | some i => rw [eh] at hz; exact Im.uni hz
  rw [e, hx.uns, hy.uni, ez] at h2
  exact ⟨a, h1, h2⟩
theorem Im.uncl {c : Cl} {v : V} (h : Im K H (clP c) v) : ∃ a t ws, v = .ref a ∧ SqT K H a [.str c.name, .int c.dev, .bl c.goes, .ref t] ∧ SqT K H t ws ∧ ImL K H (c.kinds.map kdP) ws := by
  obtain ⟨a, vs, h1, h2, h3⟩ := Im.unt h
  obtain ⟨x, r, rfl, hx, h4⟩ := h3.unc
  obtain ⟨y, r, rfl, hy, h5⟩ := h4.unc
  obtain ⟨z, r, rfl, hz, h6⟩ := h5.unc
  obtain ⟨u, r, rfl, hu, h7⟩ := h6.unc
  obtain ⟨t, ws, rfl, g1, g2⟩ := Im.unks hu
  have e := h7.unn
  rw [e, hx.uns, hy.uni, hz.unb] at h2
  exact ⟨a, t, ws, h1, h2, g1, g2⟩
theorem Im.unlk {c : Lk} {v : V} (h : Im K H (lkP c) v) : ∃ a t ws, v = .ref a ∧ SqT K H a [.str c.name, .int c.s, .int c.r, .ref t] ∧ SqT K H t ws ∧ ImL K H (c.kinds.map kdP) ws := by
  obtain ⟨a, vs, h1, h2, h3⟩ := Im.unt h
  obtain ⟨x, r, rfl, hx, h4⟩ := h3.unc
  obtain ⟨y, r, rfl, hy, h5⟩ := h4.unc
  obtain ⟨z, r, rfl, hz, h6⟩ := h5.unc
  obtain ⟨u, r, rfl, hu, h7⟩ := h6.unc
  obtain ⟨t, ws, rfl, g1, g2⟩ := Im.unks hu
  have e := h7.unn
  rw [e, hx.uns, hy.uni, hz.uni] at h2
  exact ⟨a, t, ws, h1, h2, g1, g2⟩
theorem Im.unsr {c : Sr} {v : V} (h : Im K H (srP c) v) : ∃ a t ws, v = .ref a ∧ SqT K H a [.str c.name, .int c.dev, .ref t] ∧ SqT K H t ws ∧ ImL K H (c.kinds.map kdP) ws := by
  obtain ⟨a, vs, h1, h2, h3⟩ := Im.unt h
  obtain ⟨x, r, rfl, hx, h4⟩ := h3.unc
  obtain ⟨y, r, rfl, hy, h5⟩ := h4.unc
  obtain ⟨u, r, rfl, hu, h7⟩ := h5.unc
  obtain ⟨t, ws, rfl, g1, g2⟩ := Im.unks hu
  have e := h7.unn
  rw [e, hx.uns, hy.uni] at h2
  exact ⟨a, t, ws, h1, h2, g1, g2⟩
theorem kdI {k : Kd} {a : Addr} (h : SqT K H a [.str k.name, .int k.low, hiV k.high]) : Im K H (kdP k) (.ref a) := by
  refine Im.tup_ h (ImL.cons_ Im.str_ (ImL.cons_ Im.int_ (ImL.cons_ ?_ ImL.nil_)))
  cases k.high with
  | none => exact Im.non_
  | some i => exact Im.int_
theorem clI {c : Cl} {a t : Addr} {ws : List V} (h : SqT K H a [.str c.name, .int c.dev, .bl c.goes, .ref t]) (g : SqT K H t ws) (i : ImL K H (c.kinds.map kdP) ws) : Im K H (clP c) (.ref a) :=
  Im.tup_ h (ImL.cons_ Im.str_ (ImL.cons_ Im.int_ (ImL.cons_ Im.bl_ (ImL.cons_ (Im.tup_ g i) ImL.nil_))))
theorem lkI {c : Lk} {a t : Addr} {ws : List V} (h : SqT K H a [.str c.name, .int c.s, .int c.r, .ref t]) (g : SqT K H t ws) (i : ImL K H (c.kinds.map kdP) ws) : Im K H (lkP c) (.ref a) :=
  Im.tup_ h (ImL.cons_ Im.str_ (ImL.cons_ Im.int_ (ImL.cons_ Im.int_ (ImL.cons_ (Im.tup_ g i) ImL.nil_))))
theorem srI {c : Sr} {a t : Addr} {ws : List V} (h : SqT K H a [.str c.name, .int c.dev, .ref t]) (g : SqT K H t ws) (i : ImL K H (c.kinds.map kdP) ws) : Im K H (srP c) (.ref a) :=
  Im.tup_ h (ImL.cons_ Im.str_ (ImL.cons_ Im.int_ (ImL.cons_ (Im.tup_ g i) ImL.nil_)))
/-- the kind of a number, in its tuple -/
theorem kd_at {ks : List Kd} {ws : List V} {j : Int} (i : ImL K H (ks.map kdP) ws) (h : Six ks j) : ∃ a, atI ws j = some (.ref a) ∧ SqT K H a [.str (kdOf ks j).name, .int (kdOf ks j).low, hiV (kdOf ks j).high] := by
  obtain ⟨d, v, h1, h2, h3⟩ := list_at i h.1 (by rw [List.length_map]; exact h.2)
  obtain ⟨k, hk, rfl⟩ := map_get h1
  have e : k = kdOf ks j := by
    have := getD_at (d := (⟨Str.empty, 0, some 0⟩ : Kd)) h.1 h.2
    rw [hk] at this
    exact Option.some.inj this
  subst e
  obtain ⟨a, rfl, h4⟩ := h3.unkd
  exact ⟨a, h2, h4⟩
theorem kdOf_mem {ks : List Kd} {j : Int} (h : Six ks j) : kdOf ks j ∈ ks := List.mem_of_getElem? (getD_at h.1 h.2)
theorem cl_at {F : Fm} {vs : List V} {c : Int} (hI : ImL K H (F.clocks.map clP) vs) (c0 : 0 ≤ c) (c1 : c < (F.clocks.length : Int)) : ∃ a t ws, atI vs c = some (.ref a) ∧ SqT K H a [.str (clOf F c).name, .int (clOf F c).dev, .bl (clOf F c).goes, .ref t] ∧ SqT K H t ws ∧ ImL K H ((clOf F c).kinds.map kdP) ws := by
  obtain ⟨d2, v2, g1, g2, g3⟩ := list_at hI c0 (by rw [List.length_map]; exact c1)
  obtain ⟨C, hC, rfl⟩ := map_get g1
  have eC : C = clOf F c := by
    have := getD_at (d := (⟨Str.empty, 0, false, []⟩ : Cl)) c0 c1
    rw [hC] at this
    exact Option.some.inj this
  subst eC
  obtain ⟨a, t, ws, rfl, h1, h2, h3⟩ := Im.uncl g3
  exact ⟨a, t, ws, g2, h1, h2, h3⟩
theorem lk_at {F : Fm} {vs : List V} {c : Int} (hI : ImL K H (F.links.map lkP) vs) (c0 : 0 ≤ c) (c1 : c < (F.links.length : Int)) : ∃ a t ws, atI vs c = some (.ref a) ∧ SqT K H a [.str (lkOf F c).name, .int (lkOf F c).s, .int (lkOf F c).r, .ref t] ∧ SqT K H t ws ∧ ImL K H ((lkOf F c).kinds.map kdP) ws := by
  obtain ⟨d2, v2, g1, g2, g3⟩ := list_at hI c0 (by rw [List.length_map]; exact c1)
  obtain ⟨C, hC, rfl⟩ := map_get g1
  have eC : C = lkOf F c := by
    have := getD_at (d := (⟨Str.empty, 0, 0, []⟩ : Lk)) c0 c1
    rw [hC] at this
    exact Option.some.inj this
  subst eC
  obtain ⟨a, t, ws, rfl, h1, h2, h3⟩ := Im.unlk g3
  exact ⟨a, t, ws, g2, h1, h2, h3⟩
theorem sr_at {F : Fm} {vs : List V} {c : Int} (hI : ImL K H (F.sources.map srP) vs) (c0 : 0 ≤ c) (c1 : c < (F.sources.length : Int)) : ∃ a t ws, atI vs c = some (.ref a) ∧ SqT K H a [.str (srOf F c).name, .int (srOf F c).dev, .ref t] ∧ SqT K H t ws ∧ ImL K H ((srOf F c).kinds.map kdP) ws := by
  obtain ⟨d2, v2, g1, g2, g3⟩ := list_at hI c0 (by rw [List.length_map]; exact c1)
  obtain ⟨C, hC, rfl⟩ := map_get g1
  have eC : C = srOf F c := by
    have := getD_at (d := (⟨Str.empty, 0, []⟩ : Sr)) c0 c1
    rw [hC] at this
    exact Option.some.inj this
  subst eC
  obtain ⟨a, t, ws, rfl, h1, h2, h3⟩ := Im.unsr g3
  exact ⟨a, t, ws, g2, h1, h2, h3⟩
theorem int_at {ns : List Int} {i : Nat} (h : i < ns.length) : atI (ns.map V.int) (i : Int) = some (.int (ns.getD i 0)) := at_of (j := i) rfl (by rw [List.getElem?_map, getD_ix (d := 0) h]; rfl)
theorem mul64 {a b : Int} (h : In18 a) : (-(2 ^ 64) < a ∧ a < 2 ^ 64) ∨ (-(2 ^ 64) < b ∧ b < 2 ^ 64) := by
  unfold In18 at h
  exact .inl ⟨by omega, by omega⟩
theorem LsI.app {a b ds es} (h : LsI K H a ds) (g : LsI K H b es) : ∃ vs ws, H a = some (.lst vs) ∧ H b = some (.lst ws) ∧ vs.length = ds.length ∧ ws.length = es.length ∧ LsI K (upd H a (.lst (vs ++ ws))) a (ds ++ es) := by
  obtain ⟨vs, h1, h2⟩ := h
  obtain ⟨ws, g1, g2⟩ := g
  exact ⟨vs, ws, h1, g1, h2.len, g2.len, _, upd_same, ImL.mono (.set h1) _ (h2.app g2)⟩
end
/-- all but two lists stays -/
def Bu2 (a b : Addr) (H H' : Hp) : Prop := ∀ c u, c ≠ a → c ≠ b → H c = some u → H' c = some u
theorem Bu2.of {a b : Addr} {H H' : Hp} (s : Same H H') : Bu2 a b H H' := fun c u _ _ h => s c u h
theorem Bu2.refl {a b : Addr} {H : Hp} : Bu2 a b H H := fun c u _ _ h => h
theorem Bu2.trans {a b : Addr} {H H1 H2 : Hp} (x : Bu2 a b H H1) (y : Bu2 a b H1 H2) : Bu2 a b H H2 := fun c u h1 h2 h => y c u h1 h2 (x c u h1 h2 h)
theorem Bu2.one {a b : Addr} {H H' : Hp} (s : But a H H') : Bu2 a b H H' := fun c u h1 _ h => s c u h1 h
theorem Bu2.two {a b : Addr} {H H' : Hp} (s : But b H H') : Bu2 a b H H' := fun c u _ h2 h => s c u h2 h
theorem Bu2.tk {a b : Addr} {H H' : Hp} {xs ys : List V} (s : Bu2 a b H H') (ha : H a = some (.lst xs)) (hb : H b = some (.lst ys)) : TupK H H' :=
  ⟨fun c x h => s c _ (ne_of h ha (by intro z; cases z)) (ne_of h hb (by intro z; cases z)) h, fun c o x h => s c _ (ne_of h ha (by intro z; cases z)) (ne_of h hb (by intro z; cases z)) h⟩
theorem Bu2.same {a b : Addr} {H0 H H' : Hp} (s : Bu2 a b H H') (e : Same H0 H) (ha : H0 a = none) (hb : H0 b = none) : Same H0 H' := fun c u h => s c u (ne_of_none h ha) (ne_of_none h hb) (e c u h)
theorem ftl_len (a b : Pt) (l h p : Int) : (ftl a b l h p).length = 2 := rfl
theorem clockM_len (C : Cl) (c dev n : Int) (e : Ev) (s : Int) (h : HdM) : (clockM C c dev n e s h).length ≤ 6 := by
  unfold clockM
  split
  · rw [ftl_len]; decide
  · split
    · rw [ftl_len]; decide
    · simp only [List.length_append, ftl_len, List.length_cons, List.length_nil]
      decide
theorem hearM_len (F : Fm) (p : Pt) (d : Dd) (k : Option Int) : (hearM F p d k).length ≤ 3 := by
  unfold hearM
  simp only [List.length_append, List.length_cons, List.length_nil]
  split
  · decide
  · split <;> simp
theorem flatB_len {f : Nat → List Bd} (h : ∀ i, (f i).length ≤ 6) : ∀ n, ((List.range n).flatMap f).length ≤ 6 * n
  | 0 => Nat.le_refl _
  | n + 1 => by
    have := flatB_len h n
    have := h n
    rw [List.range_succ, List.flatMap_append, List.length_append]
    show _ + (f n ++ []).length ≤ _
    rw [List.append_nil]
    omega
theorem rangeB {f : Nat → List Bd} (n : Nat) : (List.range (n + 1)).flatMap f = (List.range n).flatMap f ++ f n := by
  rw [List.range_succ, List.flatMap_append]
  show _ ++ (f n ++ []) = _
  rw [List.append_nil]
theorem rangeH {α : Type} {f : Nat → α} (n : Nat) : (List.range (n + 1)).map f = (List.range n).map f ++ [f n] := by
  rw [List.range_succ, List.map_append]
  rfl
/-! ### views -/
def RwI (K : PySem.W.Frag) (H : Hp) (a : Addr) (es : List Ev) : Prop := LsI K H a (es.map evP)
def VwI (K : PySem.W.Frag) (H : Hp) (v : Addr) (vw : List (List Ev)) : Prop := ∃ rows, H v = some (.lst (rows.map V.ref)) ∧ Each (RwI K H) rows vw
theorem VwI.keep {K : PySem.W.Frag} {H H' : Hp} {v : Addr} {vw : List (List Ev)} (e : Same H H') (h : VwI K H v vw) : VwI K H' v vw := by
  obtain ⟨rows, h1, h2⟩ := h
  exact ⟨rows, e _ _ h1, h2.keep fun _ _ z => LsI.keep e z⟩
def dfE : Ev := ⟨false, [], [], ⟨0, []⟩, []⟩
def wordOf (F : Fm) (vw : List (List Ev)) (d : Dd) : Dd := ((vw.getD (lkOf F (d.nums.getD 0 0)).s.toNat []).getD (d.nums.getD 1 0).toNat dfE).deed
def heardM (F : Fm) (vw : List (List Ev)) (d : Dd) : Option Int := if d.place = 5 then (if (wordOf F vw d).place = 3 then some ((wordOf F vw d).nums.getD 1 0) else none) else none
/-- what is heard can be looked up -/
structure HeFit (F : Fm) (vw : List (List Ev)) (d : Dd) : Prop where
  l0 : 0 ≤ d.nums.getD 0 0
  l1 : d.nums.getD 0 0 < F.links.length
  s0 : 0 ≤ (lkOf F (d.nums.getD 0 0)).s
  s1 : (lkOf F (d.nums.getD 0 0)).s < vw.length
  n0 : 0 ≤ d.nums.getD 1 0
  n1 : d.nums.getD 1 0 < ((vw.getD (lkOf F (d.nums.getD 0 0)).s.toNat []).length : Int)
  pl : (wordOf F vw d).place < 9
  ar : (wordOf F vw d).place = 3 → (wordOf F vw d).nums.length = 2
def devS (F : Fm) (vw : List (List Ev)) (d : Nat) : Nat → List Bd × List HdM
  | 0 => ([], List.replicate (cks F d).length dfH)
  | j + 1 => ((devS F vw d j).1 ++ evB F d ((j : Int) + 1) ((vw.getD d []).getD (j + 1) dfE) (devS F vw d j).2 (heardM F vw ((vw.getD d []).getD (j + 1) dfE).deed), evH F d ((j : Int) + 1) ((vw.getD d []).getD (j + 1) dfE) (devS F vw d j).2)
def vwB (F : Fm) (vw : List (List Ev)) : List Bd := (List.range vw.length).flatMap fun d => (devS F vw d ((vw.getD d []).length - 1)).1
structure VwFit (F : Fm) (vw : List (List Ev)) : Prop where
  cl : F.clocks.length ≤ 10
  vl : vw.length ≤ 6
  el : ∀ d, (vw.getD d []).length ≤ 40
  pl : ∀ d j, d < vw.length → j + 1 < (vw.getD d []).length → ((vw.getD d []).getD (j + 1) dfE).deed.place < 9
  fit : ∀ d j, d < vw.length → j + 1 < (vw.getD d []).length → EvFit F d ((vw.getD d []).getD (j + 1) dfE) (devS F vw d j).2 (heardM F vw ((vw.getD d []).getD (j + 1) dfE).deed)
  he : ∀ d j, d < vw.length → j + 1 < (vw.getD d []).length → ((vw.getD d []).getD (j + 1) dfE).deed.place = 5 → HeFit F vw ((vw.getD d []).getD (j + 1) dfE).deed
theorem evB_len {F : Fm} (h : F.clocks.length ≤ 10) (dev n : Int) (e : Ev) (hs : List HdM) (k : Option Int) : (evB F dev n e hs k).length ≤ 64 := by
  have h1 := flatB_len (f := cB F dev n e hs) (fun i => clockM_len _ _ _ _ _ _ _) (cks F dev).length
  have h2 : (cks F dev).length ≤ 10 := Nat.le_trans (ckN_len _ _ _) h
  have h3 : (restM F ⟨dev, n, -1⟩ e.deed k).length ≤ 3 := by
    unfold restM
    split
    · show 2 ≤ 3
      decide
    · split
      · exact hearM_len _ _ _ _
      · exact Nat.zero_le _
  unfold evB
  rw [List.length_append, List.length_append, List.length_cons, List.length_nil]
  omega
theorem devS_len {F : Fm} (h : F.clocks.length ≤ 10) (vw : List (List Ev)) (d : Nat) : ∀ j, (devS F vw d j).1.length ≤ 64 * j
  | 0 => Nat.zero_le _
  | j + 1 => by
    have h1 := devS_len h vw d j
    have h2 := evB_len h d ((j : Int) + 1) ((vw.getD d []).getD (j + 1) dfE) (devS F vw d j).2 (heardM F vw ((vw.getD d []).getD (j + 1) dfE).deed)
    rw [devS, List.length_append]
    omega
theorem vwN_len {F : Fm} {vw : List (List Ev)} (h : VwFit F vw) : ∀ n, ((List.range n).flatMap fun d => (devS F vw d ((vw.getD d []).length - 1)).1).length ≤ 2560 * n
  | 0 => Nat.le_refl _
  | n + 1 => by
    have h1 := vwN_len h n
    have h2 := devS_len h.cl vw n ((vw.getD n []).length - 1)
    have h3 := h.el n
    rw [rangeB, List.length_append]
    omega
end Vs

namespace Vs
open PySem PySem.Spec PyProof.Rows L2
/-! ### the drawn rows, and lists of data beside them, each at a place of its own -/
structure Wd (K : PySem.W.Frag) (H : Hp) (r : Addr) (n : Nat) (ls : List (Addr × List PyData)) (is : List (Addr × HO)) : Prop where
  rows : RwAt H r n
  la : ∀ p ∈ ls, LsI K H p.1 p.2
  ia : ∀ p ∈ is, H p.1 = some p.2
  nd : (r :: (ls.map (·.1) ++ is.map (·.1))).Nodup
section
variable {K : PySem.W.Frag} {H H' : Hp} {r : Addr} {n : Nat} {ls : List (Addr × List PyData)} {is : List (Addr × HO)}
theorem Wd.one (h : RwAt H r n) : Wd K H r n [] [] := ⟨h, fun p hp => by simp at hp, fun p hp => by simp at hp, by simp⟩
theorem Wd.keep (w : Wd K H r n ls is) (s : Same H H') : Wd K H' r n ls is := ⟨w.rows.keep s, fun p hp => (w.la p hp).keep s, fun p hp => s _ _ (w.ia p hp), w.nd⟩
theorem Wd.nr (w : Wd K H r n ls is) {p : Addr × List PyData} (hp : p ∈ ls) : p.1 ≠ r := fun e => (List.nodup_cons.mp w.nd).1 (by rw [← e]; exact List.mem_append.mpr (.inl (List.mem_map.mpr ⟨p, hp, rfl⟩)))
theorem Wd.nri (w : Wd K H r n ls is) {p : Addr × HO} (hp : p ∈ is) : p.1 ≠ r := fun e => (List.nodup_cons.mp w.nd).1 (by rw [← e]; exact List.mem_append.mpr (.inr (List.mem_map.mpr ⟨p, hp, rfl⟩)))
theorem Wd.take (w : Wd K H r n ls is) (b : But r H H') (h : RwAt H' r n) : Wd K H' r n ls is := by
  obtain ⟨xs, hx⟩ := w.rows.lst
  exact ⟨h, fun p hp => (w.la p hp).but b hx (w.nr hp), fun p hp => b _ _ (w.nri hp) (w.ia p hp), w.nd⟩
theorem Wd.free (w : Wd K H r n ls is) {a : Addr} (h : H a = none) : a ∉ (r :: (ls.map (·.1) ++ is.map (·.1))) := fun m => by
  rcases List.mem_cons.mp m with e | m
  · exact w.rows.ne h e
  · rcases List.mem_append.mp m with m | m
    · obtain ⟨p, hp, rfl⟩ := List.mem_map.mp m
      obtain ⟨xs, hx⟩ := (w.la p hp).lst
      rw [hx] at h
      cases h
    · obtain ⟨p, hp, rfl⟩ := List.mem_map.mp m
      rw [w.ia p hp] at h
      cases h
theorem Wd.new (w : Wd K H r n ls is) (s : Same H H') {a : Addr} {ds : List PyData} (h : H a = none) (l : LsI K H' a ds) : Wd K H' r n ((a, ds) :: ls) is := by
  have w' := w.keep s
  have f := w.free h
  refine ⟨w'.rows, fun p hp => ?_, w'.ia, ?_⟩
  · rcases List.mem_cons.mp hp with e | hp
    · rw [e]; exact l
    · exact w'.la p hp
  · have nd := w.nd
    rw [List.nodup_cons] at nd ⊢
    refine ⟨fun m => ?_, ?_⟩
    · rcases List.mem_cons.mp m with e | m
      · exact f (List.mem_cons.mpr (.inl e.symm))
      · exact nd.1 m
    · show (a :: (ls.map (·.1) ++ is.map (·.1))).Nodup
      rw [List.nodup_cons]
      exact ⟨fun m => f (List.mem_cons.mpr (.inr m)), nd.2⟩
theorem Wd.newI (w : Wd K H r n ls is) (s : Same H H') {a : Addr} {o : HO} (h : H a = none) (l : H' a = some o) : Wd K H' r n ls ((a, o) :: is) := by
  have w' := w.keep s
  have f := w.free h
  refine ⟨w'.rows, w'.la, fun p hp => ?_, ?_⟩
  · rcases List.mem_cons.mp hp with e | hp
    · rw [e]; exact l
    · exact w'.ia p hp
  · have nd := w.nd
    have e : (r :: (ls.map (·.1) ++ ((a, o) :: is).map (·.1))).Perm (a :: (r :: (ls.map (·.1) ++ is.map (·.1)))) := by
      show (r :: (ls.map (·.1) ++ (a :: is.map (·.1)))).Perm _
      exact (List.Perm.cons r List.perm_middle).trans (List.Perm.swap a r _)
    rw [e.nodup_iff, List.nodup_cons]
    exact ⟨f, nd⟩
theorem set_fst (i : Nat) (a : Addr) (ds ds' : List PyData) (hi : ls[i]? = some (a, ds)) : (ls.set i (a, ds')).map (·.1) = ls.map (·.1) := by
  have hl := (List.getElem?_eq_some_iff.mp hi).1
  rw [List.map_set]
  apply List.ext_getElem?
  intro j
  by_cases e : i = j
  · subst e
    rw [List.getElem?_set_self (by rw [List.length_map]; exact hl), List.getElem?_map, hi]
    rfl
  · rw [List.getElem?_set_ne e]
theorem Wd.put (w : Wd K H r n ls is) {i : Nat} {a : Addr} {ds ds' : List PyData} {ws : List V} (hi : ls[i]? = some (a, ds)) (hI : ImL K H ds' ws) : Wd K (upd H a (.lst ws)) r n (ls.set i (a, ds')) is := by
  have hm : (a, ds) ∈ ls := List.mem_of_getElem? hi
  obtain ⟨xs, hx⟩ := (w.la _ hm).lst
  have hx : H a = some (.lst xs) := hx
  have tk : TupK H (upd H a (.lst ws)) := .set hx
  have nd2 := (List.nodup_cons.mp w.nd).2
  refine ⟨w.rows.but But.set (w.nr hm).symm, fun p hp => ?_, fun p hp => ?_, by rw [set_fst i a ds ds' hi]; exact w.nd⟩
  · obtain ⟨j, hj⟩ := List.getElem?_of_mem hp
    by_cases e : i = j
    · subst e
      rw [List.getElem?_set_self (List.getElem?_eq_some_iff.mp hi).1] at hj
      cases hj
      exact ⟨ws, upd_same, ImL.mono tk _ hI⟩
    · rw [List.getElem?_set_ne e] at hj
      have ne : p.1 ≠ a := fun ea => e (by
        have nl := (List.nodup_append.mp nd2).1
        have h1 : (ls.map (·.1))[i]? = some a := by rw [List.getElem?_map, hi]; rfl
        have h2 : (ls.map (·.1))[j]? = some a := by rw [List.getElem?_map, hj, ← ea]; rfl
        exact nd_ix nl h1 h2)
      exact (w.la p (List.mem_of_getElem? hj)).but But.set hx ne
  · have ne : p.1 ≠ a := fun ea => (List.nodup_append.mp nd2).2.2 a (List.mem_map.mpr ⟨_, hm, rfl⟩) p.1 (List.mem_map.mpr ⟨p, hp, rfl⟩) ea.symm
    rw [upd_ne ne]
    exact w.ia p hp
theorem Wd.snoc (w : Wd K H r n ls is) (i : Nat) {a : Addr} {ds : List PyData} {d : PyData} {v : V} (hi : ls[i]? = some (a, ds)) (g : Im K H d v) : ∃ vs, H a = some (.lst vs) ∧ vs.length = ds.length ∧ Wd K (upd H a (.lst (vs ++ [v]))) r n (ls.set i (a, ds ++ [d])) is := by
  obtain ⟨vs, h1, h2⟩ := w.la _ (List.mem_of_getElem? hi)
  exact ⟨vs, h1, h2.len, w.put hi (h2.snoc g)⟩
theorem Wd.app (w : Wd K H r n ls is) (i : Nat) {a b : Addr} {ds es : List PyData} (hi : ls[i]? = some (a, ds)) (g : LsI K H b es) : ∃ vs ws, H a = some (.lst vs) ∧ H b = some (.lst ws) ∧ vs.length = ds.length ∧ ws.length = es.length ∧ Wd K (upd H a (.lst (vs ++ ws))) r n (ls.set i (a, ds ++ es)) is := by
  obtain ⟨vs, h1, h2⟩ := w.la _ (List.mem_of_getElem? hi)
  obtain ⟨ws, g1, g2⟩ := g
  exact ⟨vs, ws, h1, g1, h2.len, g2.len, w.put hi (h2.app g2)⟩
theorem Wd.at (w : Wd K H r n ls is) (i : Nat) {a : Addr} {ds : List PyData} (hi : ls[i]? = some (a, ds)) : LsI K H a ds := w.la _ (List.mem_of_getElem? hi)
theorem Wd.ati (w : Wd K H r n ls is) (i : Nat) {a : Addr} {o : HO} (hi : is[i]? = some (a, o)) : H a = some o := w.ia _ (List.mem_of_getElem? hi)
theorem Wd.tk (w : Wd K H r n ls is) (b : But r H H') : TupK H H' := w.rows.tk b
theorem Wd.mk1 (h : RwAt H r n) {a : Addr} {ds : List PyData} (l : LsI K H a ds) (ne : a ≠ r) : Wd K H r n [(a, ds)] [] :=
  ⟨h, fun p hp => by rw [List.mem_singleton.mp hp]; exact l, fun p hp => by simp at hp, by simp [ne.symm]⟩
theorem Wd.news (w : Wd K H r n ls is) (s : Same H H') {ls2 : List (Addr × List PyData)} {is2 : List (Addr × HO)} (h1 : ∀ p ∈ ls2, LsI K H' p.1 p.2 ∧ H p.1 = none) (h2 : ∀ p ∈ is2, H' p.1 = some p.2 ∧ H p.1 = none) (nd : (ls2.map (·.1) ++ is2.map (·.1)).Nodup) : Wd K H' r n (ls2 ++ ls) (is2 ++ is) := by
  have w' := w.keep s
  refine ⟨w'.rows, fun p hp => ?_, fun p hp => ?_, ?_⟩
  · rcases List.mem_append.mp hp with hp | hp
    · exact (h1 p hp).1
    · exact w'.la p hp
  · rcases List.mem_append.mp hp with hp | hp
    · exact (h2 p hp).1
    · exact w'.ia p hp
  · have pm : (r :: ((ls2 ++ ls).map (·.1) ++ (is2 ++ is).map (·.1))).Perm ((ls2.map (·.1) ++ is2.map (·.1)) ++ (r :: (ls.map (·.1) ++ is.map (·.1)))) := by
      rw [List.perm_iff_count]
      intro a
      simp only [List.map_append, List.count_append, List.count_cons]
      omega
    rw [pm.nodup_iff, List.nodup_append]
    refine ⟨nd, w.nd, fun a ha b hb e => ?_⟩
    subst e
    rcases List.mem_append.mp ha with ha | ha
    · obtain ⟨p, hp, rfl⟩ := List.mem_map.mp ha
      exact w.free (h1 p hp).2 hb
    · obtain ⟨p, hp, rfl⟩ := List.mem_map.mp ha
      exact w.free (h2 p hp).2 hb
/-- taken out of the bundle -/
theorem Wd.drop (w : Wd K H r n ls is) (m : Nat) : Wd K H r n (ls.drop m) is := ⟨w.rows, fun p hp => w.la p (List.mem_of_mem_drop hp), w.ia, by
  refine List.Nodup.sublist ?_ w.nd
  refine List.Sublist.cons₂ _ (List.Sublist.append ?_ (List.Sublist.refl _))
  exact List.Sublist.map _ (List.drop_sublist m ls)⟩
end
/-- a number's text is short -/
theorem numT {i : Nat} (h : i ≤ 1000) : In18 ((0 : Int) + (i : Int)) := by
  rw [Int.zero_add]
  exact In18.small h
theorem devS2_len (F : Fm) (vw : List (List Ev)) (d : Nat) : ∀ j, (devS F vw d j).2.length = (cks F d).length
  | 0 => List.length_replicate
  | j + 1 => by
    show (evH F d _ _ _).length = _
    unfold evH
    rw [List.length_map, List.length_range]
theorem cks_none {F : Fm} (h : F.clocks = []) (d : Int) : cks F d = [] := by
  unfold cks
  rw [h]
  rfl
theorem one_getD {α : Type} (x : α) (d : Nat) (z : α) : ([x] : List α).getD d z = if d = 0 then x else z := by
  cases d with
  | zero => rfl
  | succ d => rfl
theorem flatM_congr {f g : Nat → List Bd} : ∀ {n : Nat}, (∀ i, i < n → f i = g i) → (List.range n).flatMap f = (List.range n).flatMap g
  | 0, _ => rfl
  | n + 1, h => by
    rw [rangeB, rangeB, flatM_congr fun i hi => h i (by omega), h n (by omega)]
theorem snoc_getD {α : Type} {xs : List α} {x z : α} {i : Nat} (h : i < xs.length) : (xs ++ [x]).getD i z = xs.getD i z := by
  rw [List.getD_eq_getElem?_getD, List.getD_eq_getElem?_getD, List.getElem?_append_left h]
theorem snoc_getD' {α : Type} {xs : List α} {x z : α} : (xs ++ [x]).getD xs.length z = x := by
  rw [List.getD_eq_getElem?_getD, List.getElem?_append_right (Nat.le_refl _), Nat.sub_self]
  rfl
end Vs

namespace Vs
open PySem PySem.Spec PyProof.Rows L2
theorem pe_fldK {X : Cx} {e : Expr} {f : Str} {pos : Pos} {ta : TE} (K : PySem.W.Frag) (hK : X.K = K) (he : PE X e ta) (hb : attributeBase e f X.env (eval e X.env) = eval e X.env) : PE X (.Attribute e f pos) (tFld K ta f) := by
  subst hK
  exact pe_fld he hb
/-! ### a law's own hands: a list of lists -/
def HdL (K : PySem.W.Frag) (H : Hp) (a : Addr) (h : HdM) : Prop := ∃ x, H a = some (.lst [x, .int h.shown, .int h.kind]) ∧ Im K H (opP h.pt) x
structure HLi (K : PySem.W.Frag) (H : Hp) (hl : Addr) (rs : List Addr) (hs : List HdM) : Prop where
  l : H hl = some (.lst (rs.map V.ref))
  e : Each (HdL K H) rs hs
  n : hl ∉ rs
section
variable {K : PySem.W.Frag} {H H' : Hp} {hl : Addr} {rs : List Addr} {hs : List HdM}
theorem HdL.keep {a h} (e : Same H H') (g : HdL K H a h) : HdL K H' a h := by
  obtain ⟨x, h1, h2⟩ := g
  exact ⟨x, e _ _ h1, Im.mono (.of e) _ h2⟩
theorem HdL.but {o a : Addr} {xs : List V} {h : HdM} (e : But o H H') (ho : H o = some (.lst xs)) (n : a ≠ o) (g : HdL K H a h) : HdL K H' a h := by
  obtain ⟨x, h1, h2⟩ := g
  exact ⟨x, e _ _ n h1, Im.mono (.but e ho) _ h2⟩
theorem HLi.keep (e : Same H H') (g : HLi K H hl rs hs) : HLi K H' hl rs hs := ⟨e _ _ g.l, g.e.keep fun _ _ z => z.keep e, g.n⟩
theorem Each.imp {α : Type} {P P' : Addr → α → Prop} {as xs} (h : Each P as xs) (f : ∀ a x, a ∈ as → P a x → P' a x) : Each P' as xs := ⟨h.1, fun i a x h1 h2 => f a x (List.mem_of_getElem? h1) (h.2 i a x h1 h2)⟩
theorem HLi.but {o : Addr} {xs : List V} (e : But o H H') (ho : H o = some (.lst xs)) (n : o ∉ hl :: rs) (g : HLi K H hl rs hs) : HLi K H' hl rs hs := by
  rw [List.mem_cons, not_or] at n
  exact ⟨e _ _ (Ne.symm n.1) g.l, g.e.imp fun a _ ha z => z.but e ho fun x => n.2 (x ▸ ha), g.n⟩
theorem HLi.free {a : Addr} (g : HLi K H hl rs hs) (h : H a = none) : a ∉ hl :: rs := fun m => by
  rcases List.mem_cons.mp m with e | m
  · rw [e, g.l] at h; cases h
  · obtain ⟨i, hi⟩ := List.getElem?_of_mem m
    obtain ⟨x, _, y, h1, _⟩ := g.e.get hi
    rw [h1] at h
    cases h
/-- one hand is put in another's place -/
theorem HLi.set (g : HLi K H hl rs hs) {a : Addr} {h : HdM} (na : a ≠ hl) (ha : HdL K H a h) (i : Nat) : HLi K (upd H hl (.lst ((rs.set i a).map V.ref))) hl (rs.set i a) (hs.set i h) := by
  have b : But hl H (upd H hl (.lst ((rs.set i a).map V.ref))) := But.set
  refine ⟨upd_same, (g.e.set ha).imp fun c z hc q => q.but b g.l ?_, fun m => ?_⟩
  · intro e
    rcases List.mem_or_eq_of_mem_set hc with m | m
    · exact g.n (e ▸ m)
    · exact na (m.symm.trans e)
  · rcases List.mem_or_eq_of_mem_set m with m | m
    · exact g.n m
    · exact na m.symm
variable {r : Addr} {n : Nat} {ls : List (Addr × List PyData)} {is : List (Addr × HO)}
def adrs (r : Addr) (ls : List (Addr × List PyData)) (is : List (Addr × HO)) : List Addr := r :: (ls.map (·.1) ++ is.map (·.1))
theorem Wd.but (w : Wd K H r n ls is) {o : Addr} {xs : List V} (e : But o H H') (ho : H o = some (.lst xs)) (no : o ∉ adrs r ls is) : Wd K H' r n ls is := by
  unfold adrs at no
  rw [List.mem_cons, List.mem_append, not_or, not_or] at no
  refine ⟨w.rows.but e (Ne.symm no.1), fun p hp => (w.la p hp).but e ho fun x => no.2.1 (x ▸ List.mem_map.mpr ⟨p, hp, rfl⟩), fun p hp => e _ _ (fun x => no.2.2 (x ▸ List.mem_map.mpr ⟨p, hp, rfl⟩)) (w.ia p hp), w.nd⟩
/-- the bundle, and hands beside it -/
structure Hw (K : PySem.W.Frag) (H : Hp) (r : Addr) (n : Nat) (ls : List (Addr × List PyData)) (is : List (Addr × HO)) (hl : Addr) (rs : List Addr) (hs : List HdM) : Prop where
  w : Wd K H r n ls is
  h : HLi K H hl rs hs
  d : ∀ a ∈ hl :: rs, a ∉ adrs r ls is
theorem Hw.keep (g : Hw K H r n ls is hl rs hs) (e : Same H H') : Hw K H' r n ls is hl rs hs := ⟨g.w.keep e, g.h.keep e, g.d⟩
theorem Hw.take (g : Hw K H r n ls is hl rs hs) (b : But r H H') (h : RwAt H' r n) : Hw K H' r n ls is hl rs hs := by
  obtain ⟨xs, hx⟩ := g.w.rows.lst
  exact ⟨g.w.take b h, g.h.but b hx fun m => g.d r m (List.mem_cons_self), g.d⟩
theorem Hw.new (g : Hw K H r n ls is hl rs hs) (s : Same H H') {a : Addr} {ds : List PyData} (h : H a = none) (l : LsI K H' a ds) : Hw K H' r n ((a, ds) :: ls) is hl rs hs := by
  refine ⟨g.w.new s h l, g.h.keep s, fun b hb m => ?_⟩
  unfold adrs at m
  rcases List.mem_cons.mp m with e | m
  · exact g.d b hb (e ▸ List.mem_cons_self)
  · rcases List.mem_append.mp m with m | m
    · rcases List.mem_cons.mp m with e | m
      · have e : b = a := e
        rw [e] at hb
        exact g.h.free h hb
      · exact g.d b hb (List.mem_cons.mpr (.inr (List.mem_append.mpr (.inl m))))
    · exact g.d b hb (List.mem_cons.mpr (.inr (List.mem_append.mpr (.inr m))))
theorem Hw.put (g : Hw K H r n ls is hl rs hs) {i : Nat} {a : Addr} {ds ds' : List PyData} {ws : List V} (hi : ls[i]? = some (a, ds)) (hI : ImL K H ds' ws) : Hw K (upd H a (.lst ws)) r n (ls.set i (a, ds')) is hl rs hs := by
  have hm : (a, ds) ∈ ls := List.mem_of_getElem? hi
  obtain ⟨xs, hx⟩ := (g.w.la _ hm).lst
  have hx : H a = some (.lst xs) := hx
  have ha : a ∈ adrs r ls is := List.mem_cons.mpr (.inr (List.mem_append.mpr (.inl (List.mem_map.mpr ⟨_, hm, rfl⟩))))
  refine ⟨g.w.put hi hI, g.h.but But.set hx fun m => g.d a m ha, fun b hb m => g.d b hb ?_⟩
  unfold adrs at m ⊢
  rw [set_fst i a ds ds' hi] at m
  exact m
theorem Hw.snoc (g : Hw K H r n ls is hl rs hs) (i : Nat) {a : Addr} {ds : List PyData} {d : PyData} {v : V} (hi : ls[i]? = some (a, ds)) (q : Im K H d v) : ∃ vs, H a = some (.lst vs) ∧ vs.length = ds.length ∧ Hw K (upd H a (.lst (vs ++ [v]))) r n (ls.set i (a, ds ++ [d])) is hl rs hs := by
  obtain ⟨vs, h1, h2⟩ := g.w.la _ (List.mem_of_getElem? hi)
  exact ⟨vs, h1, h2.len, g.put hi (h2.snoc q)⟩
theorem Hw.drop (g : Hw K H r n ls is hl rs hs) (m : Nat) : Hw K H r n (ls.drop m) is hl rs hs := ⟨g.w.drop m, g.h, fun b hb z => g.d b hb (by
  unfold adrs at z ⊢
  rcases List.mem_cons.mp z with e | z
  · exact List.mem_cons.mpr (.inl e)
  · rcases List.mem_append.mp z with z | z
    · obtain ⟨p, hp, rfl⟩ := List.mem_map.mp z
      exact List.mem_cons.mpr (.inr (List.mem_append.mpr (.inl (List.mem_map.mpr ⟨p, List.mem_of_mem_drop hp, rfl⟩))))
    · exact List.mem_cons.mpr (.inr (List.mem_append.mpr (.inr z))))⟩
/-- the hands are other ones -/
theorem Hw.hands (g : Hw K H r n ls is hl rs hs) {rs' : List Addr} {hs' : List HdM} (b : But hl H H') (h : HLi K H' hl rs' hs') (fp : ∀ a ∈ rs', a ∈ rs ∨ H a = none) : Hw K H' r n ls is hl rs' hs' := by
  refine ⟨g.w.but b g.h.l (g.d hl List.mem_cons_self), h, fun a ha m => ?_⟩
  rcases List.mem_cons.mp ha with e | ha
  · exact g.d hl List.mem_cons_self (e ▸ m)
  · rcases fp a ha with q | q
    · exact g.d a (List.mem_cons.mpr (.inr q)) m
    · exact g.w.free q m
end
theorem Wd.sub {K : PySem.W.Frag} {H : Hp} {r : Addr} {n : Nat} {ls ls' : List (Addr × List PyData)} {is : List (Addr × HO)} (w : Wd K H r n ls is) (s : List.Sublist ls' ls) : Wd K H r n ls' is := ⟨w.rows, fun p hp => w.la p (s.subset hp), w.ia, List.Nodup.sublist (List.Sublist.cons₂ _ (List.Sublist.append (List.Sublist.map _ s) (List.Sublist.refl _))) w.nd⟩
theorem adrs_sub {r : Addr} {ls ls' : List (Addr × List PyData)} {is : List (Addr × HO)} (s : List.Sublist ls' ls) {a : Addr} (h : a ∈ adrs r ls' is) : a ∈ adrs r ls is := (List.Sublist.cons₂ _ (List.Sublist.append (List.Sublist.map _ s) (List.Sublist.refl _))).subset h
section
variable {K : PySem.W.Frag} {H H' : Hp} {hl : Addr} {rs : List Addr} {hs : List HdM} {r : Addr} {n : Nat} {ls : List (Addr × List PyData)} {is : List (Addr × HO)}
theorem Hw.sub {ls' : List (Addr × List PyData)} (g : Hw K H r n ls is hl rs hs) (s : List.Sublist ls' ls) : Hw K H r n ls' is hl rs hs := ⟨g.w.sub s, g.h, fun a ha m => g.d a ha (adrs_sub s m)⟩
theorem Wd.add (w : Wd K H r n ls is) {a : Addr} {ds : List PyData} (f : a ∉ adrs r ls is) (l : LsI K H a ds) : Wd K H r n ((a, ds) :: ls) is := by
  unfold adrs at f
  refine ⟨w.rows, fun p hp => ?_, w.ia, ?_⟩
  · rcases List.mem_cons.mp hp with e | hp
    · rw [e]; exact l
    · exact w.la p hp
  · have nd := w.nd
    rw [List.nodup_cons] at nd ⊢
    refine ⟨fun m => ?_, ?_⟩
    · rcases List.mem_cons.mp m with e | m
      · exact f (List.mem_cons.mpr (.inl e.symm))
      · exact nd.1 m
    · show (a :: (ls.map (·.1) ++ is.map (·.1))).Nodup
      rw [List.nodup_cons]
      exact ⟨fun m => f (List.mem_cons.mpr (.inr m)), nd.2⟩
theorem Hw.add (g : Hw K H r n ls is hl rs hs) {a : Addr} {ds : List PyData} (f : a ∉ adrs r ls is) (f2 : a ∉ hl :: rs) (l : LsI K H a ds) : Hw K H r n ((a, ds) :: ls) is hl rs hs := by
  refine ⟨g.w.add f l, g.h, fun b hb m => ?_⟩
  unfold adrs at m
  rcases List.mem_cons.mp m with e | m
  · exact g.d b hb (e ▸ List.mem_cons_self)
  · rcases List.mem_append.mp m with m | m
    · rcases List.mem_cons.mp m with e | m
      · have e : b = a := e
        rw [e] at hb
        exact f2 hb
      · exact g.d b hb (List.mem_cons.mpr (.inr (List.mem_append.mpr (.inl m))))
    · exact g.d b hb (List.mem_cons.mpr (.inr (List.mem_append.mpr (.inr m))))
/-- rows drawn while a new list was made -/
theorem Hw.taken (g : Hw K H r n ls is hl rs hs) (b : But r H H') (h : RwAt H' r n) {a : Addr} {ds : List PyData} (na : H a = none) (l : LsI K H' a ds) : Hw K H' r n ((a, ds) :: ls) is hl rs hs := (g.take b h).add (g.w.free na) (g.h.free na) l
end
theorem ints_map (ns : List Int) : ns.map PyData.int = ns.map PyData.int := rfl
theorem LsI.ofInts {K : PySem.W.Frag} {H : Hp} {a : Addr} {ns : List Int} (h : H a = some (.lst (ns.map V.int))) : LsI K H a (ns.map PyData.int) := ⟨_, h, ImL.ints⟩
theorem LsI.toInts {K : PySem.W.Frag} {H : Hp} {a : Addr} {ns : List Int} (h : LsI K H a (ns.map PyData.int)) : H a = some (.lst (ns.map V.int)) := by
  obtain ⟨vs, h1, h2⟩ := h
  rw [h2.uints] at h1
  exact h1
/-! ### all clocks of one device -/
theorem ckN_all {cs : List Cl} {j : Int} (h : ∀ c ∈ cs, c.dev = j) : ∀ n, n ≤ cs.length → ckN cs j n = (List.range n).map fun (i : Nat) => (i : Int)
  | 0, _ => rfl
  | n + 1, hn => by
    have hi : n < cs.length := hn
    rw [ckN_yes (List.getElem?_eq_getElem hi) (h _ (List.getElem_mem hi)), ckN_all h n (by omega), rangeH]
theorem range_getD {n i : Nat} (h : i < n) : ((List.range n).map fun (i : Nat) => (i : Int)).getD i 0 = (i : Int) := by
  rw [List.getD_eq_getElem?_getD, List.getElem?_map, List.getElem?_range h]
  rfl
theorem set_mid {α : Type} {A B : List α} {x b : α} {i : Nat} (h : A.length = i) : (A ++ b :: B).set i x = A ++ x :: B := by
  subst h
  rw [List.set_append_right _ _ (Nat.le_refl _), Nat.sub_self]
  rfl
end Vs

namespace Vs
open PySem PySem.Spec PyProof.Rows L2
/-! ### a clock that runs (law 24): what it shows, its kind, how old its unit is and how long, what was drawn -/
structure Cs where
  v : Int
  k : Int
  e : Int
  l : Int
  m : Int
def Cs.ns (c : Cs) : List Int := [c.v, c.k, 0, c.e, c.l, c.m]
def loK (ks : List Kd) (k : Int) : Int := (kdOf ks k).low
def hiK (ks : List Kd) (k : Int) : Int := hiOf (kdOf ks k)
structure CsOk (ks : List Kd) (c : Cs) : Prop where
  e0 : 0 ≤ c.e
  el : c.e < c.l
  ll : loK ks c.k ≤ c.l
  lh : c.l ≤ hiK ks c.k
  k6 : Six ks c.k
  m0 : 0 ≤ c.m
structure Ran (ks : List Kd) (c d : Cs) (a : Int) : Prop where
  k : d.k = c.k
  ok : CsOk ks d
  u : c.v ≤ d.v
  z : d.v = c.v → d.e = c.e + a ∧ d.l = c.l
  p : c.v < d.v → ∃ S, a = (c.l - c.e) + S + d.e ∧ loK ks c.k * (d.v - c.v - 1) ≤ S ∧ S ≤ hiK ks c.k * (d.v - c.v - 1)
theorem Ran.refl {ks : List Kd} {c : Cs} (h : CsOk ks c) : Ran ks c c 0 := ⟨rfl, h, Int.le_refl _, fun _ => ⟨by omega, rfl⟩, fun h => by omega⟩
theorem Ran.one {ks : List Kd} {c d : Cs} {a : Int} (h : Ran ks c d a) (g : d.e + 1 < d.l) : Ran ks c ⟨d.v, d.k, d.e + 1, d.l, d.m⟩ (a + 1) := by
  have o := h.ok
  refine ⟨h.k, ⟨by have := o.e0; show 0 ≤ d.e + 1; omega, g, o.ll, o.lh, o.k6, o.m0⟩, h.u, fun z => ?_, fun z => ?_⟩
  · obtain ⟨z1, z2⟩ := h.z z
    exact ⟨by show d.e + 1 = c.e + (a + 1); omega, z2⟩
  · obtain ⟨S, s1, s2, s3⟩ := h.p z
    exact ⟨S, by show a + 1 = (c.l - c.e) + S + (d.e + 1); omega, s2, s3⟩
theorem Ran.next {ks : List Kd} {c d : Cs} {a l : Int} (h : Ran ks c d a) (g : ¬ d.e + 1 < d.l) (l1 : loK ks c.k ≤ l) (l2 : l ≤ hiK ks c.k) (l0 : 0 < l) : Ran ks c ⟨d.v + 1, d.k, 0, l, d.m + 1⟩ (a + 1) := by
  have o := h.ok
  have ek := h.k
  have eu := h.u
  have el := o.el
  have ll := o.ll
  have lh := o.lh
  rw [ek] at ll lh
  refine ⟨h.k, ⟨Int.le_refl _, l0, by rw [ek]; exact l1, by rw [ek]; exact l2, o.k6, by have := o.m0; show 0 ≤ d.m + 1; omega⟩, by show c.v ≤ d.v + 1; omega, fun z => ?_, fun z => ?_⟩
  · have z : d.v + 1 = c.v := z
    omega
  · by_cases e : d.v = c.v
    · obtain ⟨z1, z2⟩ := h.z e
      refine ⟨0, by show a + 1 = (c.l - c.e) + 0 + 0; omega, ?_, ?_⟩
      · show loK ks c.k * (d.v + 1 - c.v - 1) ≤ 0
        rw [show d.v + 1 - c.v - 1 = 0 from by omega, Int.mul_zero]
        exact Int.le_refl _
      · show 0 ≤ hiK ks c.k * (d.v + 1 - c.v - 1)
        rw [show d.v + 1 - c.v - 1 = 0 from by omega, Int.mul_zero]
        exact Int.le_refl _
    · obtain ⟨S, s1, s2, s3⟩ := h.p (by omega)
      refine ⟨S + d.l, by show a + 1 = (c.l - c.e) + (S + d.l) + 0; omega, ?_, ?_⟩
      · show loK ks c.k * (d.v + 1 - c.v - 1) ≤ S + d.l
        rw [show d.v + 1 - c.v - 1 = (d.v - c.v - 1) + 1 from by omega, Int.mul_add, Int.mul_one]
        omega
      · show S + d.l ≤ hiK ks c.k * (d.v + 1 - c.v - 1)
        rw [show d.v + 1 - c.v - 1 = (d.v - c.v - 1) + 1 from by omega, Int.mul_add, Int.mul_one]
        omega
/-- a bound is met by the times of its points -/
def Met (t : Pt → Option Int) (b : Bd) : Prop := ∃ x y, t b.one = some x ∧ t b.two = some y ∧ y ≤ x + b.amount
theorem Met.mono {t t' : Pt → Option Int} (h : ∀ p x, t p = some x → t' p = some x) {b : Bd} (m : Met t b) : Met t' b := by
  obtain ⟨x, y, h1, h2, h3⟩ := m
  exact ⟨x, y, h _ _ h1, h _ _ h2, h3⟩
structure HdT (t : Pt → Option Int) (T : Int) (c : Cs) (h : HdM) : Prop where
  k : h.kind = c.k
  p : ∀ q, h.pt = some q → t q = some (T - c.e) ∧ h.shown = c.v
theorem ftl_met {t : Pt → Option Int} {a b : Pt} {lo hi part x y : Int} (ha : t a = some x) (hb : t b = some y) (h1 : lo ≤ y - x) (h2 : y - x ≤ hi) : ∀ z ∈ ftl a b lo hi part, Met t z := by
  intro z hz
  unfold ftl at hz
  rcases List.mem_cons.mp hz with e | hz
  · rw [e]
    exact ⟨x, y, ha, hb, by show y ≤ x + hi; omega⟩
  · rw [List.mem_singleton.mp hz]
    exact ⟨y, x, hb, ha, by show x ≤ y + -lo; omega⟩
/-- what the law's clock does before a look -/
def Went (ks : List Kd) (goes asleep : Bool) (c d : Cs) (a : Int) : Prop := if (goes || !asleep) = true then Ran ks c d a else d = c
/-- what its device does to it then -/
inductive Done (ks : List Kd) (d : Cs) : Cs → Dd → Prop
  | note : Done ks d d ⟨0, []⟩
  | set (v l m : Int) : v ≠ d.v → CsOk ks ⟨v, d.k, 0, l, m⟩ → Done ks d ⟨v, d.k, 0, l, m⟩ ⟨0, []⟩
  | kind (k l m : Int) : CsOk ks ⟨d.v, k, 0, l, m⟩ → Done ks d ⟨d.v, k, 0, l, m⟩ ⟨1, [0, k]⟩
theorem clock24 {C : Cl} {t : Pt → Option Int} {T T' n : Int} {c d : Cs} {e : Ev} {h : HdM} (hp : e.deed.place ≠ 8) (hlo : 0 ≤ loK C.kinds c.k) (w : Went C.kinds C.goes e.asleep c d (T' - T)) (ok : CsOk C.kinds c) (hh : HdT t T c h) (h0 : t ⟨0, n - 1, -1⟩ = some T) (h1 : t ⟨0, n, -1⟩ = some T') (h2 : t ⟨0, n, 0⟩ = some (T' - d.e)) : ∀ b ∈ clockM C 0 0 n e d.v h, Met t b := by
  have dok : CsOk C.kinds d ∧ d.k = c.k := by
    unfold Went at w
    split at w
    · exact ⟨w.ok, w.k⟩
    · rw [w]; exact ⟨ok, rfl⟩
  obtain ⟨dok, dk⟩ := dok
  have e0 := dok.e0
  have el := dok.el
  have lh := dok.lh
  have c0 := ok.e0
  have cl := ok.el
  have c1 := ok.ll
  have c2 := ok.lh
  rw [dk] at lh
  have hk : h.kind = c.k := hh.k
  have last : ∀ b ∈ ftl ⟨0, n, 0⟩ ⟨0, n, -1⟩ 0 (hiOf (kdOf C.kinds h.kind)) 0, Met t b := ftl_met h2 h1 (by omega) (by rw [hk]; show _ ≤ hiK C.kinds c.k; omega)
  unfold clockM
  cases hs : sinceM C.goes e h with
  | none => exact last
  | some q =>
    have hrun : (C.goes || !e.asleep) = true ∧ h.pt = some q := by
      unfold sinceM at hs
      rw [decide_eq_false hp, Bool.false_or] at hs
      cases hg : C.goes <;> cases ha : e.asleep <;> rw [hg, ha] at hs <;> simp at hs ⊢ <;> exact hs
    obtain ⟨hrun, hq⟩ := hrun
    unfold Went at w
    rw [if_pos hrun] at w
    obtain ⟨tq, hv⟩ := hh.p q hq
    dsimp only
    by_cases z : d.v - h.shown = 0
    · rw [if_pos z]
      obtain ⟨z1, z2⟩ := w.z (by omega)
      exact ftl_met tq h1 (by omega) (by rw [hk]; show _ ≤ hiK C.kinds c.k; omega)
    · rw [if_neg z]
      have u := w.u
      obtain ⟨S, s1, s2, s3⟩ := w.p (by omega)
      rw [hv, hk]
      have m1 : loK C.kinds c.k * (d.v - c.v) = loK C.kinds c.k * (d.v - c.v - 1) + loK C.kinds c.k := by
        rw [show d.v - c.v = (d.v - c.v - 1) + 1 from by omega, Int.mul_add, Int.mul_one, Int.add_sub_cancel]
      have m2 : hiK C.kinds c.k * (d.v - c.v) = hiK C.kinds c.k * (d.v - c.v - 1) + hiK C.kinds c.k := by
        rw [show d.v - c.v = (d.v - c.v - 1) + 1 from by omega, Int.mul_add, Int.mul_one, Int.add_sub_cancel]
      have m3 : 0 ≤ loK C.kinds c.k * (d.v - c.v - 1) := Int.mul_nonneg hlo (by omega)
      intro b hb
      rcases List.mem_append.mp hb with hb | hb
      · rcases List.mem_append.mp hb with hb | hb
        · rcases List.mem_append.mp hb with hb | hb
          · exact ftl_met tq h2 (by show loK C.kinds c.k * (d.v - c.v) ≤ _; omega) (by show _ ≤ hiK C.kinds c.k * (d.v - c.v); omega) b hb
          · rw [List.mem_singleton.mp hb]
            exact ⟨_, _, h2, tq, by show T - c.e ≤ T' - d.e + -0; omega⟩
        · rw [List.mem_singleton.mp hb]
          exact ⟨_, _, h2, h0, by show T ≤ T' - d.e + -(loK C.kinds c.k * (d.v - c.v - 1)); omega⟩
      · rw [hk] at last
        exact last b hb
theorem hand24 {C : Cl} {t : Pt → Option Int} {T T' n : Int} {c d f : Cs} {e : Ev} {h : HdM} (w : Went C.kinds C.goes e.asleep c d (T' - T)) (dn : Done C.kinds d f e.deed) (hsh : e.shown = [d.v]) (haf : e.after = [f.v]) (hh : HdT t T c h) (h1 : t ⟨0, n, -1⟩ = some T') (h2 : t ⟨0, n, 0⟩ = some (T' - d.e)) : HdT t T' f (handM C 0 0 n e 0 h) := by
  have dk : d.k = c.k := by
    unfold Went at w
    split at w
    · exact w.k
    · rw [w]
  have hk : h.kind = c.k := hh.k
  unfold handM
  rw [hsh, haf]
  generalize hd : e.deed = D at *
  cases dn with
  | kind k l m o =>
    have hg : givenM ⟨1, [0, k]⟩ 0 0 = some k := rfl
    rw [hg]
    exact ⟨rfl, fun q hq => by cases hq; exact ⟨by rw [h1]; show some T' = some (T' - 0); rw [Int.sub_zero], rfl⟩⟩
  | set v l m ne o =>
    have hg : givenM ⟨0, []⟩ 0 0 = none := rfl
    rw [hg]
    dsimp only
    rw [if_pos (show ([v] : List Int).getD 0 0 ≠ [d.v].getD 0 0 from ne)]
    exact ⟨by show h.kind = d.k; omega, fun q hq => by cases hq; exact ⟨by rw [h1]; show some T' = some (T' - 0); rw [Int.sub_zero], rfl⟩⟩
  | note =>
    have hg : givenM ⟨0, []⟩ 0 0 = none := rfl
    rw [hg]
    dsimp only
    rw [if_neg (show ¬ ([d.v].getD 0 0 ≠ [d.v].getD 0 0) from fun z => z rfl)]
    split
    · rename_i g
      obtain ⟨g1, g2⟩ := g
      have hrun : (C.goes || !e.asleep) = true ∧ (sinceM C.goes e h) = h.pt := by
        unfold sinceM at g1 ⊢
        rw [hd] at g1 ⊢
        have e8 : decide ((⟨0, []⟩ : Dd).place = 8) = false := rfl
        rw [e8, Bool.false_or] at g1 ⊢
        cases hg : C.goes <;> cases ha : e.asleep <;> rw [hg, ha] at g1 <;> simp at g1 ⊢
      obtain ⟨hrun, hq⟩ := hrun
      unfold Went at w
      rw [if_pos hrun] at w
      rw [hq] at g1
      refine ⟨by omega, fun q hq2 => ?_⟩
      obtain ⟨tq, hv⟩ := hh.p q hq2
      have g2 : d.v = h.shown := g2
      obtain ⟨z1, z2⟩ := w.z (by omega)
      exact ⟨by rw [tq]; congr 1; omega, by omega⟩
    · exact ⟨by show h.kind = d.k; omega, fun q hq => by cases hq; exact ⟨h2, rfl⟩⟩
/-! ### a display whose keys are tuples -/
def mergeT (kvs : List (List Key × V)) (more : List (List Key × Addr × V)) : List (List Key × V) := more.foldl (fun acc z => putK acc z.1 z.2.2) kvs
def tDispT (trs : List (TE × TE)) : TE := fun σ H Q => ∀ p, H p = none → tPairs trs σ (upd H p (.dT [])) fun ps H2 => H2 p = some (.dT []) ∧ ∃ kvs : List (List Key × Addr × V), ps = kvs.map (fun z => (V.ref z.2.1, z.2.2)) ∧ (∀ z ∈ kvs, H2 z.2.1 = some (.tup (z.1.map kV))) ∧ kvs.length ≤ 15 ∧ Q (.ref p) (upd H2 p (.dT (mergeT [] kvs)))
theorem carriesT {P : Program} {w : World} {H : Hp} {h : Heap} (ok : HOk P w H h) : ∀ {kvs : List (List Key × Addr × V)} {ws : List (Value × Value)}, VV (kvs.map fun z => (V.ref z.2.1, z.2.2)) ws → (∀ z ∈ kvs, H z.2.1 = some (.tup (z.1.map kV))) → ∃ rs : List (List Key × Addr × Value), CarriesH (tupleKind (mixKind P w)) h ws rs ∧ ∀ (acc : List (List Key × V)) (bcc : List (List Key × Addr × Value)), KT H acc bcc → KT H (mergeT acc kvs) (storedAllH bcc rs)
  | [], _, r, _ => by rw [List.map_nil] at r; cases r; exact ⟨[], True.intro, fun _ _ q => q⟩
  | p :: kvs, _, r, hk => by
    rw [List.map_cons] at r
    cases r with
    | @cons a b as bs h1 t =>
      obtain ⟨rs, c, q⟩ := carriesT ok t fun z hz => hk z (List.mem_cons.mpr (.inr hz))
      obtain ⟨b1, b2⟩ := b
      obtain ⟨r1, r2⟩ := h1
      have e1 : b1 = Value.ref p.2.1 := r1
      have hp := hk p (List.mem_cons.mpr (.inl rfl))
      exact ⟨(p.1, p.2.1, b2) :: rs, ⟨e1, rfl, key_of ok hp, c⟩, fun acc bcc g => q _ _ (g.put p.1 hp r2)⟩
theorem length_mergeT : ∀ (more : List (List Key × Addr × V)) (kvs : List (List Key × V)), (mergeT kvs more).length ≤ kvs.length + more.length
  | [], kvs => by show kvs.length ≤ kvs.length + 0; omega
  | p :: r, kvs => by
    have h1 := length_mergeT r (putK kvs p.1 p.2.2)
    have h2 := length_putK kvs p.1 p.2.2
    show (mergeT (putK kvs p.1 p.2.2) r).length ≤ _
    rw [List.length_cons]; omega
theorem pe_dispT {X : Cx} {pos : Pos} {keys : List (Option Expr)} {values : List Expr} {trs : List (TE × TE)} (hu : X.A.units + 1 < cLine) (h : PPs X pos keys values trs) (hall : keys.all (·.isSome) = true) (hl : keys.length = values.length) (h0 : keys ≠ [])
    (h15 : keys.length ≤ 15) : PE X (.Dict keys values pos) (tDispT trs) := by
  refine ⟨fun pins s σ H Q I q => ?_⟩
  have hn := I.hok.fresh (Nat.le_refl s.heap.objs.size)
  have I1 := I.laid (a := s.heap.objs.size) (o := .dT []) (h' := s.heap.push { cls := .type "dict", data := .dict #[] }) (t' := s.toks) (fun _ _ q => Heap.get?_push_of_some _ q) (Nat.le_refl _) (dt_empty s.heap I.big)
  have hnl := pairTrees_length keys values X.env pos hall hl
  have hne : pairTrees keys values X.env pos ≠ [] := fun he => by
    rw [he] at hnl
    exact h0 (List.length_eq_zero_iff.mp hnl.symm)
  rw [arm_eval_Dict, zip_pairTrees keys values X.env pos hall hl, dictDisplay_pairs _ hne (by omega)]
  have hr : (tupleKind (mixKind X.prog X.w)).room X.A := by
    first | exact hu | (show _ < _; omega)
  refine wpAny_bind (wpAny_standAt (wpAny_bind (wpAny_subDictH (knd := tupleKind (mixKind X.prog X.w)) (Q := fun d s' => wpAny (model X.prog X.w) X.A (pure (Value.ref d)) _ X.xe s') hr (by omega) (thn (h.run pins _ σ _ _ I1 (q _ hn)) fun ws s2 ⟨ps, H2, I2, rel, e, kvs, ep, hk, lk, q2⟩ => ?_))))
  subst ep
  obtain ⟨rs, c, g⟩ := carriesT I2.hok rel hk
  obtain ⟨z, hd, xs, r0, dd⟩ := dt_of I2.hok e
  cases r0
  refine ⟨rs, c, dd, fun h' tk dd' hs => wpAny_pure ⟨.ref s.heap.objs.size, _, ?_, rfl, q2⟩⟩
  have hz : (mergeT [] kvs).length ≤ sizeLine := by
    have h1 := length_mergeT kvs []
    rw [List.length_nil] at h1
    rw [sizeLine_eq]; omega
  obtain ⟨o, es, ep, ho, h2, h3, h4, _, h5⟩ := dd'
  refine d_write I2 (by rw [e]; exact True.intro) hs ⟨_, ho⟩ ⟨hz, hd, _, (g [] [] .nil).keeps fun c ys ec => ?_, o, es, ep, ho, h2, h3, h4, h5⟩
  rw [upd_ne (ne_of ec e (fun z => nomatch z))]
  exact ec
end Vs

namespace Vs
open PySem PySem.Spec PyProof.Rows L2
/-- a drawn clock -/
structure ClK23 (c : Cl) : Prop where
  dv : c.dev = 0
  len : 0 < c.kinds.length ∧ c.kinds.length ≤ 2
  ks : ∀ k ∈ c.kinds, KdC k
theorem in18 {g : Int} (h0 : 0 ≤ g) (h1 : g ≤ 1000) : In18 g := by
  unfold In18
  omega
def cl0 : Cl := ⟨Str.empty, 0, false, []⟩
/-- a drawn deed -/
def Dd23 (cs : List Cl) (d : Dd) : Prop := (d = ⟨0, []⟩) ∨ (∃ c k : Int, d = ⟨1, [c, k]⟩ ∧ 0 ≤ c ∧ c < (cs.length : Int) ∧ Six (cs.getD c.toNat cl0).kinds k) ∨ (∃ ks : List Int, d = ⟨8, ks⟩ ∧ ks.length = cs.length ∧ ∀ i : Nat, i < cs.length → Six (cs.getD i cl0).kinds (ks.getD i 0))
def fm23 (cs : List Cl) : Fm := ⟨["a"], cs, [], [], 0⟩
def od23 (n : Int) : Bd := ⟨⟨0, n, -1⟩, ⟨0, n - 1, -1⟩, 0, -1⟩
def tkP (C : Cl) (c n : Int) (e : Ev) (s : Int) (h : HdM) : Pt := match sinceM C.goes e h with
  | some t => if s - h.shown = 0 then t else ⟨0, n, c⟩
  | none => ⟨0, n, c⟩
def midL (C : Cl) (c n : Int) (e : Ev) (s : Int) (h : HdM) : List Bd := match sinceM C.goes e h with
  | some t => if s - h.shown = 0 then [] else [⟨t, ⟨0, n, c⟩, hiOf (kdOf C.kinds h.kind) * (s - h.shown), c⟩, ⟨⟨0, n, c⟩, t, 0 - (kdOf C.kinds h.kind).low * (s - h.shown), c⟩, ⟨⟨0, n, c⟩, t, 0, c⟩, ⟨⟨0, n, c⟩, ⟨0, n - 1, -1⟩, (kdOf C.kinds h.kind).low - (kdOf C.kinds h.kind).low * (s - h.shown), c⟩]
  | none => []
theorem clockM_eq (C : Cl) (c n : Int) (e : Ev) (s : Int) (h : HdM) : clockM C c 0 n e s h = midL C c n e s h ++ [⟨tkP C c n e s h, ⟨0, n, -1⟩, hiOf (kdOf C.kinds h.kind), c⟩, ⟨⟨0, n, -1⟩, tkP C c n e s h, 0, c⟩] := by
  unfold clockM midL tkP
  cases sinceM C.goes e h with
  | none => rfl
  | some t =>
    dsimp only
    by_cases g : s - h.shown = 0
    · rw [if_pos g, if_pos g, if_pos g]
      rfl
    · rw [if_neg g, if_neg g, if_neg g]
      have e1 : -((kdOf C.kinds h.kind).low * (s - h.shown - 1)) = (kdOf C.kinds h.kind).low - (kdOf C.kinds h.kind).low * (s - h.shown) := by
        rw [Int.mul_sub, Int.mul_one, Int.neg_sub]
      have e2 : -((kdOf C.kinds h.kind).low * (s - h.shown)) = 0 - (kdOf C.kinds h.kind).low * (s - h.shown) := (Int.zero_sub _).symm
      unfold ftl
      rw [e1, e2]
      rfl
theorem tk_hand (C : Cl) (c n : Int) (e : Ev) (s : Int) (h : HdM) : (if (sinceM C.goes e h).isSome = true ∧ s = h.shown then h else ⟨some ⟨0, n, c⟩, s, h.kind⟩) = (⟨some (tkP C c n e s h), s, h.kind⟩ : HdM) := by
  unfold tkP
  cases hs : sinceM C.goes e h with
  | none => rw [if_neg (fun z => absurd z.1 (by decide))]
  | some t =>
    have ep : h.pt = some t := by
      unfold sinceM at hs
      split at hs
      · cases hs
      · exact hs
    by_cases g : s = h.shown
    · have g0 : s - h.shown = 0 := by omega
      rw [if_pos ⟨rfl, g⟩]
      dsimp only
      rw [if_pos g0, ← ep, g]
    · have g0 : ¬ (s - h.shown = 0) := by omega
      rw [if_neg (fun z => g z.2)]
      dsimp only
      rw [if_neg g0]
theorem midL_len (C : Cl) (c n : Int) (e : Ev) (s : Int) (h : HdM) : (midL C c n e s h).length ≤ 4 := by
  unfold midL
  split
  · split
    · exact Nat.zero_le _
    · exact Nat.le_refl _
  · exact Nat.zero_le _
structure Ev23 (cs : List Cl) (e : Ev) : Prop where
  d : Dd23 cs e.deed
  s : e.shown.length = cs.length
  a : e.after.length = cs.length
structure Hs23 (cs : List Cl) (hs : List HdM) : Prop where
  l : hs.length = cs.length
  k : ∀ i : Nat, i < cs.length → Six (cs.getD i cl0).kinds (hs.getD i dfH).kind
theorem Dd23.pl {cs : List Cl} {d : Dd} (h : Dd23 cs d) : d.place = 0 ∨ d.place = 1 ∨ d.place = 8 := by
  rcases h with rfl | ⟨_, _, rfl, _⟩ | ⟨_, rfl, _⟩
  · exact .inl rfl
  · exact .inr (.inl rfl)
  · exact .inr (.inr rfl)
theorem cks23 {cs : List Cl} (h : ∀ c ∈ cs, ClK23 c) : cks (fm23 cs) 0 = (List.range cs.length).map fun (i : Nat) => (i : Int) := ckN_all (fun c hc => (h c hc).dv) _ (Nat.le_refl _)
/-- a law's hands and its list, in the making -/
structure D23 (K : PySem.W.Frag) (H H' : Hp) (hl : Addr) (rs0 : List Addr) (dl : Addr) (rs : List Addr) (hs : List HdM) (ds : List PyData) : Prop where
  fr : But hl H H'
  tk : TupK H H'
  h : HLi K H' hl rs hs
  l : LsI K H' dl ds
  nd : dl ∉ hl :: rs
  nf : H dl = none
  fp : ∀ a ∈ rs, a ∈ rs0 ∨ H a = none
section
variable {K : PySem.W.Frag} {H H' H'' : Hp} {hl dl : Addr} {rs0 rs : List Addr} {hs : List HdM} {ds : List PyData}
theorem D23.keep (g : D23 K H H' hl rs0 dl rs hs ds) (s : Same H' H'') : D23 K H H'' hl rs0 dl rs hs ds := ⟨g.fr.trans (But.of s), g.tk.trans (.of s), g.h.keep s, g.l.keep s, g.nd, g.nf, g.fp⟩
theorem D23.snoc (g : D23 K H H' hl rs0 dl rs hs ds) {d : PyData} {v : V} (i : Im K H' d v) : ∃ vs, H' dl = some (.lst vs) ∧ vs.length = ds.length ∧ D23 K H (upd H' dl (.lst (vs ++ [v]))) hl rs0 dl rs hs (ds ++ [d]) := by
  obtain ⟨vs, h1, h2, h3⟩ := g.l.snoc i
  exact ⟨vs, h1, h2, fun c u hc hu => by rw [upd_ne (ne_of_none hu g.nf)]; exact g.fr c u hc hu, g.tk.trans (.set h1), g.h.but But.set h1 g.nd, h3, g.nd, g.nf, g.fp⟩
theorem D23.free (g : D23 K H H' hl rs0 dl rs hs ds) {a : Addr} (h : H' a = none) : H a = none := by
  cases e : H a with
  | none => rfl
  | some w =>
    by_cases q : a = hl
    · rw [q, g.h.l] at h; cases h
    · rw [g.fr _ _ q e] at h; cases h
theorem D23.set (g : D23 K H H' hl rs0 dl rs hs ds) (s : Same H' H'') {a : Addr} {h : HdM} (na : H' a = none) (ha : HdL K H'' a h) (i : Nat) : D23 K H (upd H'' hl (.lst ((rs.set i a).map V.ref))) hl rs0 dl (rs.set i a) (hs.set i h) ds := by
  have g2 := g.keep s
  have e1 : a ≠ hl := fun e => by rw [e, g.h.l] at na; cases na
  have e2 : a ≠ dl := fun e => by
    obtain ⟨xs, hx⟩ := g.l.lst
    rw [e, hx] at na
    cases na
  have b : But hl H'' (upd H'' hl (.lst ((rs.set i a).map V.ref))) := But.set
  have n1 : dl ≠ hl := fun e => g.nd (List.mem_cons.mpr (.inl e))
  refine ⟨g2.fr.trans b, g2.tk.trans (.set g2.h.l), g2.h.set e1 ha i, g2.l.but b g2.h.l n1, fun m => ?_, g.nf, fun c hc => ?_⟩
  · rcases List.mem_cons.mp m with m | m
    · exact n1 m
    · rcases List.mem_or_eq_of_mem_set m with m | m
      · exact g.nd (List.mem_cons.mpr (.inr m))
      · exact e2 m.symm
  · rcases List.mem_or_eq_of_mem_set hc with m | m
    · exact g.fp c m
    · rw [m]
      exact .inr (g.free na)
/-- a hand of the law, read -/
theorem HLi.at (g : HLi K H' hl rs hs) {i : Nat} (hi : i < hs.length) : ∃ a x, atI (rs.map V.ref) (i : Int) = some (.ref a) ∧ H' a = some (.lst [x, .int (hs.getD i dfH).shown, .int (hs.getD i dfH).kind]) ∧ Im K H' (opP (hs.getD i dfH).pt) x ∧ i < rs.length := by
  have hl2 := g.e.1
  have hr : i < rs.length := by omega
  obtain ⟨x, h1, h2⟩ := g.e.2 i _ _ (List.getElem?_eq_getElem hr) (getD_ix (d := dfH) hi)
  exact ⟨rs[i], x, at_of (j := i) rfl (by rw [List.getElem?_map, List.getElem?_eq_getElem hr]; rfl), h1, h2, hr⟩
end
def ev0 : Ev := ⟨false, [], [], ⟨0, []⟩, [1]⟩
theorem heard23 {cs : List Cl} {vw : List (List Ev)} {d : Dd} (h : Dd23 cs d) : heardM (fm23 cs) vw d = none := by
  unfold heardM
  rw [if_neg (by rcases h.pl with x | x | x <;> omega)]
section
variable {cs : List Cl} {es : List Ev}
theorem devS23_ext (h : ∀ e ∈ es, Ev23 cs e) (e : Ev) : ∀ j, j ≤ es.length → devS (fm23 cs) [ev0 :: (es ++ [e])] 0 j = devS (fm23 cs) [ev0 :: es] 0 j
  | 0, _ => rfl
  | j + 1, hj => by
    have ih := devS23_ext h e j (by omega)
    have he : Ev23 cs (es.getD j dfE) := h _ (List.mem_of_getElem? (getD_ix (by omega)))
    have e1 : ((([ev0 :: (es ++ [e])] : List (List Ev)).getD 0 []).getD (j + 1) dfE) = es.getD j dfE := snoc_getD (xs := es) (x := e) (z := dfE) (by omega)
    have e2 : ((([ev0 :: es] : List (List Ev)).getD 0 []).getD (j + 1) dfE) = es.getD j dfE := rfl
    rw [devS, devS, ih, e1, e2, heard23 he.d, heard23 he.d]
theorem devS23_step (h : ∀ e ∈ es, Ev23 cs e) {e : Ev} (he : Ev23 cs e) : devS (fm23 cs) [ev0 :: (es ++ [e])] 0 (es ++ [e]).length = ((devS (fm23 cs) [ev0 :: es] 0 es.length).1 ++ evB (fm23 cs) 0 (1 + (es.length : Int)) e (devS (fm23 cs) [ev0 :: es] 0 es.length).2 none, evH (fm23 cs) 0 (1 + (es.length : Int)) e (devS (fm23 cs) [ev0 :: es] 0 es.length).2) := by
  have e1 : ((([ev0 :: (es ++ [e])] : List (List Ev)).getD 0 []).getD (es.length + 1) dfE) = e := snoc_getD' (xs := es) (x := e) (z := dfE)
  rw [List.length_append, List.length_singleton, devS, e1, heard23 he.d, devS23_ext h e _ (Nat.le_refl _), Int.add_comm 1]
  rfl
theorem kind23 {e : Ev} {i : Nat} {n : Int} {h : HdM} (he : Ev23 cs e) (hi : i < cs.length) (h6 : Six (cs.getD i cl0).kinds h.kind) : Six (cs.getD i cl0).kinds (handM (cs.getD i cl0) (i : Int) 0 n e i h).kind := by
  unfold handM
  cases hg : givenM e.deed (i : Int) i with
  | none =>
    dsimp only
    split
    · exact h6
    · split
      · exact h6
      · exact h6
  | some k =>
    dsimp only
    unfold givenM at hg
    rcases he.d with q | ⟨c, k', q, c0, c1, k6⟩ | ⟨ks, q, q1, q2⟩
    · rw [q, if_neg (show ¬ ((0 : Nat) = 8) by decide), if_neg (fun z => absurd z.1 (show ¬ ((0 : Nat) = 1) by decide))] at hg
      cases hg
    · rw [q, if_neg (show ¬ ((1 : Nat) = 8) by decide)] at hg
      split at hg
      · rename_i z
        have ec : c = (i : Int) := Option.some.inj z.2
        have ek : k' = k := Option.some.inj hg
        rw [ec, show ((i : Int)).toNat = i from by omega] at k6
        rw [← ek]
        exact k6
      · cases hg
    · rw [q, if_pos (show (8 : Nat) = 8 from rfl)] at hg
      have := q2 i hi
      have ek : ks.getD i 0 = k := by
        rw [List.getD_eq_getElem?_getD, show ks[i]? = some k from hg]
        rfl
      rw [ek] at this
      exact this
theorem hs23 (hcs : ∀ c ∈ cs, ClK23 c) {e : Ev} {n : Int} {hs : List HdM} (he : Ev23 cs e) (hh : Hs23 cs hs) : Hs23 cs (evH (fm23 cs) 0 n e hs) := by
  have ck := cks23 hcs
  have hlen : (cks (fm23 cs) 0).length = cs.length := by rw [ck, List.length_map, List.length_range]
  refine ⟨by unfold evH; rw [List.length_map, List.length_range, hlen], fun i hi => ?_⟩
  have e1 : (evH (fm23 cs) 0 n e hs).getD i dfH = handM (cs.getD i cl0) (i : Int) 0 n e i (hs.getD i dfH) := by
    unfold evH
    rw [hlen, List.getD_eq_getElem?_getD, List.getElem?_map, List.getElem?_range hi]
    show cH (fm23 cs) 0 n e hs i = _
    unfold cH
    rw [ck, range_getD hi]
    rfl
  rw [e1]
  exact kind23 he hi (hh.k i hi)
theorem hs23_0 (hcs : ∀ c ∈ cs, ClK23 c) : Hs23 cs (List.replicate cs.length dfH) := ⟨List.length_replicate, fun i hi => by
  have e : (List.replicate cs.length dfH).getD i dfH = dfH := by
    rw [List.getD_eq_getElem?_getD, List.getElem?_replicate_of_lt hi]
    rfl
  rw [e]
  have := (hcs _ (List.mem_of_getElem? (getD_ix (d := cl0) hi))).len
  exact ⟨by show (0 : Int) ≤ 0; decide, by show (0 : Int) < _; omega⟩⟩
theorem hsS23 (hcs : ∀ c ∈ cs, ClK23 c) (h : ∀ e ∈ es, Ev23 cs e) : ∀ j, j ≤ es.length → Hs23 cs (devS (fm23 cs) [ev0 :: es] 0 j).2
  | 0, _ => by
    show Hs23 cs (List.replicate (cks (fm23 cs) 0).length dfH)
    rw [cks23 hcs, List.length_map, List.length_range]
    exact hs23_0 hcs
  | j + 1, hj => hs23 hcs (h _ (List.mem_of_getElem? (getD_ix (d := dfE) (xs := es) (i := j) (by omega)))) (hsS23 hcs h j (by omega))
theorem fit23 (hcs : ∀ c ∈ cs, ClK23 c) (hc2 : cs.length ≤ 2) (h : ∀ e ∈ es, Ev23 cs e) (hl : es.length ≤ 20) : VwFit (fm23 cs) [ev0 :: es] := by
  have ck := cks23 hcs
  have hlen : (cks (fm23 cs) 0).length = cs.length := by rw [ck, List.length_map, List.length_range]
  have key : ∀ d j, d < ([ev0 :: es] : List (List Ev)).length → j + 1 < (([ev0 :: es] : List (List Ev)).getD d []).length → d = 0 ∧ j < es.length ∧ Ev23 cs ((([ev0 :: es] : List (List Ev)).getD d []).getD (j + 1) dfE) := by
    intro d j hd hj
    have hd0 : d = 0 := by
      rw [List.length_singleton] at hd
      omega
    subst hd0
    have hj : j + 1 < (ev0 :: es).length := hj
    rw [List.length_cons] at hj
    exact ⟨rfl, by omega, h _ (List.mem_of_getElem? (getD_ix (xs := es) (i := j) (by omega)))⟩
  refine ⟨by show cs.length ≤ 10; omega, by show 1 ≤ 6; decide, fun d => ?_, fun d j hd hj => ?_, fun d j hd hj => ?_, fun d j hd hj h5 => ?_⟩
  · rw [one_getD]
    split
    · rw [List.length_cons]; omega
    · exact Nat.zero_le _
  · obtain ⟨_, _, he⟩ := key d j hd hj
    rcases he.d.pl with x | x | x <;> omega
  · obtain ⟨rfl, hj2, he⟩ := key d j hd hj
    have hh := hsS23 hcs h j (by omega)
    generalize (([ev0 :: es] : List (List Ev)).getD 0 []).getD (j + 1) dfE = e at *
    have hp := he.d.pl
    have ck0 : cks (fm23 cs) ((0 : Nat) : Int) = (List.range cs.length).map fun (i : Nat) => (i : Int) := ck
    have hl0 : (cks (fm23 cs) ((0 : Nat) : Int)).length = cs.length := hlen
    refine ⟨by rcases hp with x | x | x <;> omega, by rw [hl0, he.s], by rw [hl0, he.a], devS2_len _ _ _ _, fun h8 => ?_, fun h8 => ?_, fun h2 => by rcases hp with x | x | x <;> omega, fun h5 => by rcases hp with x | x | x <;> omega, fun i hi => ?_, fun i hi => ?_⟩
    · rcases he.d with q | ⟨_, _, q, _⟩ | ⟨_, q, _⟩
      · rw [q]; rfl
      · rw [q]; rfl
      · rw [q] at h8; exact absurd rfl h8
    · rw [hl0]
      rcases he.d with q | ⟨_, _, q, _⟩ | ⟨_, q, q1, _⟩
      · rw [q] at h8; exact absurd h8 (show (0 : Nat) ≠ 8 by decide)
      · rw [q] at h8; exact absurd h8 (show (1 : Nat) ≠ 8 by decide)
      · rw [q]; exact q1
    · rw [hl0] at hi
      rw [ck0, range_getD hi]
      exact (hcs _ (List.mem_of_getElem? (getD_ix (d := cl0) hi))).ks _ (kdOf_mem (hh.k i hi))
    · rw [hl0] at hi
      rw [ck0, range_getD hi]
      exact hh.k i hi
  · obtain ⟨_, _, he⟩ := key d j hd hj
    rcases he.d.pl with x | x | x <;> omega
theorem vwB23 : vwB (fm23 cs) [ev0 :: es] = (devS (fm23 cs) [ev0 :: es] 0 es.length).1 := by
  show (devS (fm23 cs) [ev0 :: es] 0 ((ev0 :: es).length - 1)).1 ++ [] = _
  rw [List.append_nil, List.length_cons, Nat.add_sub_cancel]
end

/-! ### law 24: the times that its dict tells -/
def keyP (p : Pt) : List Key := [.inl p.d, .inl p.n, .inl p.c]
theorem keyP_inj {p q : Pt} (h : keyP p = keyP q) : p = q := by
  cases p; cases q
  unfold keyP at h
  injection h with h1 h; injection h with h2 h; injection h with h3 _
  injection h1 with h1; injection h2 with h2; injection h3 with h3
  subst h1 h2 h3
  rfl
def tOf (kvs : List (List Key × V)) (p : Pt) : Option Int := match valV kvs (keyP p) with
  | some (.int z) => some z
  | _ => none
theorem tOf_val {kvs : List (List Key × V)} {p : Pt} {z : Int} (h : tOf kvs p = some z) : valV kvs (keyP p) = some (.int z) := by
  unfold tOf at h
  split at h
  · rename_i x e
    rw [e, ← Option.some.inj h]
  · cases h
theorem tOf_put (kvs : List (List Key × V)) (p q : Pt) (z : Int) : tOf (putK kvs (keyP p) (.int z)) q = if q = p then some z else tOf kvs q := by
  unfold tOf
  rw [valV_put]
  by_cases e : q = p
  · subst e
    rw [if_pos rfl, if_pos rfl]
  · rw [if_neg (fun h => e (keyP_inj h)), if_neg e]
structure J24 (C : Cl) (es : List Ev) (kvs : List (List Key × V)) (T : Int) (c : Cs) : Prop where
  kl : kvs.length ≤ 2 + 2 * es.length
  old : ∀ q z, tOf kvs q = some z → q.n ≤ (es.length : Int)
  ev : tOf kvs ⟨0, (es.length : Int), -1⟩ = some T
  met : ∀ b ∈ (devS (fm23 [C]) [ev0 :: es] 0 es.length).1, Met (tOf kvs) b
  hand : ∃ h, (devS (fm23 [C]) [ev0 :: es] 0 es.length).2 = [h] ∧ HdT (tOf kvs) T c h
  ok : CsOk C.kinds c
  hes : ∀ e ∈ es, Ev23 [C] e
theorem J24.step {C : Cl} {es : List Ev} {kvs : List (List Key × V)} {T g : Int} {c d f : Cs} {D : Dd} {as : Bool} {ws : List Int} (hC : ∀ x ∈ [C], ClK23 x) (h24 : 0 ≤ loK C.kinds c.k) (j : J24 C es kvs T c) (w : Went C.kinds C.goes as c d g) (dn : Done C.kinds d f D) (okf : CsOk C.kinds f) (g0 : 0 ≤ g) :
    J24 C (es ++ [⟨as, [d.v], [f.v], D, ws⟩]) (putK (putK kvs (keyP ⟨0, 1 + (es.length : Int), -1⟩) (.int (T + g))) (keyP ⟨0, 1 + (es.length : Int), 0⟩) (.int (T + g - d.e))) (T + g) f := by
  obtain ⟨h, hh, hT⟩ := j.hand
  have ck := cks23 hC
  have ck1 : cks (fm23 [C]) 0 = [0] := ck
  have hdd : Dd23 [C] D := by
    cases dn with
    | note => exact .inl rfl
    | set v l m _ _ => exact .inl rfl
    | kind k l m o => exact .inr (.inl ⟨0, k, rfl, by decide, by show (0 : Int) < 1; decide, o.k6⟩)
  have he : Ev23 [C] ⟨as, [d.v], [f.v], D, ws⟩ := ⟨hdd, rfl, rfl⟩
  have hp8 : D.place ≠ 8 := by
    cases dn with
    | note => exact (show (0 : Nat) ≠ 8 by decide)
    | set v l m _ _ => exact (show (0 : Nat) ≠ 8 by decide)
    | kind k l m o => exact (show (1 : Nat) ≠ 8 by decide)
  have hp2 : D.place ≠ 2 ∧ D.place ≠ 5 := by
    cases dn with
    | note => exact ⟨show (0 : Nat) ≠ 2 by decide, show (0 : Nat) ≠ 5 by decide⟩
    | set v l m _ _ => exact ⟨show (0 : Nat) ≠ 2 by decide, show (0 : Nat) ≠ 5 by decide⟩
    | kind k l m o => exact ⟨show (1 : Nat) ≠ 2 by decide, show (1 : Nat) ≠ 5 by decide⟩
  have st := devS23_step j.hes he
  generalize hk2 : putK (putK kvs (keyP ⟨0, 1 + (es.length : Int), -1⟩) (.int (T + g))) (keyP ⟨0, 1 + (es.length : Int), 0⟩) (.int (T + g - d.e)) = k2
  have tq : ∀ q, tOf k2 q = if q = ⟨0, 1 + (es.length : Int), 0⟩ then some (T + g - d.e) else if q = ⟨0, 1 + (es.length : Int), -1⟩ then some (T + g) else tOf kvs q := fun q => by rw [← hk2, tOf_put, tOf_put]
  have mono : ∀ p x, tOf kvs p = some x → tOf k2 p = some x := fun p x hx => by
    have o := j.old p x hx
    have n1 : p ≠ ⟨0, 1 + (es.length : Int), 0⟩ := fun z => by rw [z] at o; have o : 1 + (es.length : Int) ≤ es.length := o; omega
    have n2 : p ≠ ⟨0, 1 + (es.length : Int), -1⟩ := fun z => by rw [z] at o; have o : 1 + (es.length : Int) ≤ es.length := o; omega
    rw [tq, if_neg n1, if_neg n2]
    exact hx
  have t0 : tOf k2 ⟨0, 1 + (es.length : Int) - 1, -1⟩ = some T := by
    rw [show 1 + (es.length : Int) - 1 = es.length from by omega]
    exact mono _ _ j.ev
  have t1 : tOf k2 ⟨0, 1 + (es.length : Int), -1⟩ = some (T + g) := by
    rw [tq, if_neg (fun z => by injection z with _ _ z; cases z), if_pos rfl]
  have t2 : tOf k2 ⟨0, 1 + (es.length : Int), 0⟩ = some (T + g - d.e) := by rw [tq, if_pos rfl]
  have hT' : HdT (tOf k2) T c h := ⟨hT.k, fun q hq => ⟨mono _ _ (hT.p q hq).1, (hT.p q hq).2⟩⟩
  have w' : Went C.kinds C.goes as c d (T + g - T) := by rw [show T + g - T = g from by omega]; exact w
  have ec : clOf (fm23 [C]) 0 = C := rfl
  have hcl := clock24 (C := C) (e := ⟨as, [d.v], [f.v], D, ws⟩) hp8 h24 w' j.ok hT' t0 t1 t2
  have hha := hand24 (C := C) (e := ⟨as, [d.v], [f.v], D, ws⟩) w' dn rfl rfl hT' t1 t2
  refine ⟨?_, fun q z hq => ?_, ?_, ?_, ?_, okf, fun e' h' => ?_⟩
  · have l1 := length_putK kvs (keyP ⟨0, 1 + (es.length : Int), -1⟩) (.int (T + g))
    have l2 := length_putK (putK kvs (keyP ⟨0, 1 + (es.length : Int), -1⟩) (.int (T + g))) (keyP ⟨0, 1 + (es.length : Int), 0⟩) (.int (T + g - d.e))
    rw [hk2] at l2
    have := j.kl
    rw [List.length_append, List.length_singleton]
    omega
  · rw [List.length_append, List.length_singleton]
    rw [tq] at hq
    split at hq
    · rename_i e1; rw [e1]; show 1 + (es.length : Int) ≤ _; omega
    · split at hq
      · rename_i e1; rw [e1]; show 1 + (es.length : Int) ≤ _; omega
      · have := j.old q z hq; omega
  · rw [List.length_append, List.length_singleton, show (((es.length + 1 : Nat)) : Int) = 1 + (es.length : Int) from by omega]
    exact t1
  · rw [st]
    intro b hb
    rcases List.mem_append.mp hb with hb | hb
    · exact (j.met b hb).mono mono
    · unfold evB at hb
      rw [ck1] at hb
      rcases List.mem_append.mp hb with hb | hb
      · rcases List.mem_append.mp hb with hb | hb
        · rw [List.mem_singleton.mp hb]
          exact ⟨_, _, t1, t0, by show T ≤ T + g + -0; omega⟩
        · have hb : b ∈ cB (fm23 [C]) 0 (1 + (es.length : Int)) ⟨as, [d.v], [f.v], D, ws⟩ (devS (fm23 [C]) [ev0 :: es] 0 es.length).2 0 ++ [] := hb
          rw [List.append_nil] at hb
          unfold cB at hb
          rw [ck1, hh] at hb
          exact hcl b hb
      · unfold restM at hb
        rw [if_neg hp2.1, if_neg hp2.2] at hb
        cases hb
  · rw [st]
    refine ⟨_, ?_, hha⟩
    show evH (fm23 [C]) 0 (1 + (es.length : Int)) ⟨as, [d.v], [f.v], D, ws⟩ (devS (fm23 [C]) [ev0 :: es] 0 es.length).2 = _
    unfold evH cH
    rw [ck1, hh]
    rfl
  · rcases List.mem_append.mp h' with h' | h'
    · exact j.hes e' h'
    · rw [List.mem_singleton.mp h']
      exact he

/-! ### dicts with tuples for keys, asked by a tuple wherever it stands -/
section
variable {X : Cx} {pins : List (Addr × Obj)} {σ : L2.St} {H : Hp} {s : Shared} {a b : Addr} {kvs : List (List Key × V)} {k : List Key}
theorem key_ofS (I : Inv X pins σ H s) (e : SqT X.K H b (k.map kV)) : (tupleKind (mixKind X.prog X.w)).is s.heap k b := by
  obtain ⟨its, r, pl, hz⟩ := I.tuple e
  obtain ⟨o, h1, h2, n, h3⟩ := pl
  exact ⟨o, its.toArray, n, h1, h2, h3, by simpa using items_are r⟩
def tDGetS (K : PySem.W.Frag) (td ty : TE) : TE := fun σ H Q => td σ H fun x H1 => ty σ H1 fun y H2 => ∃ a kvs k b v, x = .ref a ∧ H2 a = some (.dT kvs) ∧ y = .ref b ∧ SqT K H2 b (k.map kV) ∧ valV kvs k = some v ∧ Q v H2
def tDNotInS (K : PySem.W.Frag) (ty td : TE) : TE := fun σ H Q => ty σ H fun y H1 => td σ H1 fun x H2 => ∃ a kvs k b v, x = .ref a ∧ H2 a = some (.dT kvs) ∧ y = .ref b ∧ SqT K H2 b (k.map kV) ∧ valV kvs k = some v ∧ Q (.bl false) H2
variable {o i : Expr} {pos : Pos} {td ty : TE}
theorem pe_dgetS (hu : X.A.units + 1 < cLine) (ho : PE X o td) (hi : PE X i ty) (hs : NoSl i) : PE X (.Subscript o i pos) (tDGetS X.K td ty) := by
  refine ⟨fun pins s σ H Q I h => ?_⟩
  refine subD_of PySem.F.slot_dict_getitem.lookup hs (thn (ho.run pins s σ H _ I h) fun u s1 ⟨x, H1, I1, rx, q1⟩ => thn (hi.run pins s1 σ H1 _ I1 q1) fun iv s2 ⟨y, H2, I2, ry, a, kvs, k, b, v, ex, e, ey, eb, l, q2⟩ => ?_)
  subst ex ey
  obtain rfl : u = Value.ref a := rx
  cases (show iv = Value.ref b from ry)
  obtain ⟨z, hd, xs, rel, dd⟩ := dt_of I2.hok e
  refine ⟨dd.typeIs, ?_⟩
  obtain ⟨w', hw, rw'⟩ := RelO.some_of (v := v) (o := (atKey xs k).map (·.2)) (by rw [← l]; exact rel.val k)
  obtain ⟨p, hp, hp2⟩ := Option.map_eq_some_iff.mp hw
  refine wpAny_getItem_heap (tupleKind_room_in1 hu) (key_ofS I2 eb) dd hp ?_
  rw [hp2]
  exact ⟨v, H2, I2.tok _, rw', q2⟩
theorem pc_dnotinS (hu : X.A.units + 1 < cLine) (hi : PE X i ty) (ho : PE X o td) : PC X .NotIn i o (tDNotInS X.K ty td) := by
  refine ⟨fun pins s σ H Q I h => ?_⟩
  refine thn (hi.run pins s σ H _ I h) fun iv s1 ⟨y, H1, I1, ry, q1⟩ => thn (ho.run pins s1 σ H1 _ I1 q1) fun u s2 ⟨x, H2, I2, rx, a, kvs, k, b, v, ex, e, ey, eb, l, q2⟩ => ?_
  subst ex ey
  obtain rfl : u = Value.ref a := rx
  cases (show iv = Value.ref b from ry)
  obtain ⟨z, hd, xs, rel, dd⟩ := dt_of I2.hok e
  refine wpAny_notIn_heap (tupleKind_room_in1 hu) (key_ofS I2 eb) hd dd ?_
  have q := (rel.val k).isSome_eq
  rw [Option.isSome_map, l] at q
  rw [← q]
  exact ⟨.bl false, H2, I2.tok _, rfl, q2⟩
end
end Vs

namespace Vs
open PySem PySem.Spec PyProof.Rows L2

def topS (i : Nat) : Stmt := PySem.Challenge.pw_whensure_k24_clocks_that_run_meet_their.main.body.getD i (.Pass ⟨0, 0, 0, 0⟩)
abbrev s_Frame_clocks_of : Stmt := inClass (topS 21) 2
abbrev nm_Frame_clocks_of : List Str := ["self", "device", "number", "clock"]
theorem sc_Frame_clocks_of : FnScope nm_Frame_clocks_of ["self", "device"] (defScope s_Frame_clocks_of) := ⟨rfl, rfl, rfl, by decide +kernel, rfl, by decide +kernel, by decide +kernel⟩
abbrev s_first_hands : Stmt := topS 7
abbrev nm_first_hands : List Str := ["frame", "device", "_"]
theorem sc_first_hands : FnScope nm_first_hands ["frame", "device"] (defScope s_first_hands) := ⟨rfl, rfl, rfl, by decide +kernel, rfl, by decide +kernel, by decide +kernel⟩
abbrev s_event_point : Stmt := topS 4
abbrev nm_event_point : List Str := ["event", "device", "number"]
theorem sc_event_point : FnScope nm_event_point ["event"] (defScope s_event_point) := ⟨rfl, rfl, rfl, by decide +kernel, rfl, by decide +kernel, by decide +kernel⟩
abbrev s_at_least_later : Stmt := topS 8
abbrev nm_at_least_later : List Str := ["first", "second", "least", "part"]
theorem sc_at_least_later : FnScope nm_at_least_later ["first", "second", "least", "part"] (defScope s_at_least_later) := ⟨rfl, rfl, rfl, by decide +kernel, rfl, by decide +kernel, by decide +kernel⟩
abbrev s_from_to_later : Stmt := topS 9
abbrev nm_from_to_later : List Str := ["first", "second", "least", "most", "part"]
theorem sc_from_to_later : FnScope nm_from_to_later ["first", "second", "least", "most", "part"] (defScope s_from_to_later) := ⟨rfl, rfl, rfl, by decide +kernel, rfl, by decide +kernel, by decide +kernel⟩
abbrev s_running_since : Stmt := topS 10
abbrev nm_running_since : List Str := ["frame", "clock", "event", "hand", "asleep", "deed", "goes_on", "stopped"]
theorem sc_running_since : FnScope nm_running_since ["frame", "clock", "event", "hand"] (defScope s_running_since) := ⟨rfl, rfl, rfl, by decide +kernel, rfl, by decide +kernel, by decide +kernel⟩
abbrev s_clock_bounds : Stmt := topS 11
abbrev nm_clock_bounds : List Str := ["frame", "record", "clock", "place", "hand", "here", "tick", "since", "gained", "bounds", "device", "number", "event", "_", "low", "high"]
theorem sc_clock_bounds : FnScope nm_clock_bounds ["frame", "record", "clock", "place", "hand"] (defScope s_clock_bounds) := ⟨rfl, rfl, rfl, by decide +kernel, rfl, by decide +kernel, by decide +kernel⟩
abbrev s_kind_given : Stmt := topS 12
abbrev nm_kind_given : List Str := ["deed", "clock", "place"]
theorem sc_kind_given : FnScope nm_kind_given ["deed", "clock", "place"] (defScope s_kind_given) := ⟨rfl, rfl, rfl, by decide +kernel, rfl, by decide +kernel, by decide +kernel⟩
abbrev s_hand_after : Stmt := topS 13
abbrev nm_hand_after : List Str := ["frame", "record", "clock", "place", "hand", "shown", "after", "given", "since", "device", "number", "event"]
theorem sc_hand_after : FnScope nm_hand_after ["frame", "record", "clock", "place", "hand"] (defScope s_hand_after) := ⟨rfl, rfl, rfl, by decide +kernel, rfl, by decide +kernel, by decide +kernel⟩
abbrev s_hands_after : Stmt := topS 14
abbrev nm_hands_after : List Str := ["frame", "record", "hands", "clocks", "place", "clock"]
theorem sc_hands_after : FnScope nm_hands_after ["frame", "record", "hands"] (defScope s_hands_after) := ⟨rfl, rfl, rfl, by decide +kernel, rfl, by decide +kernel, by decide +kernel⟩
abbrev s_Frame_source_part : Stmt := inClass (topS 21) 4
abbrev nm_Frame_source_part : List Str := ["self", "source"]
theorem sc_Frame_source_part : FnScope nm_Frame_source_part ["self", "source"] (defScope s_Frame_source_part) := ⟨rfl, rfl, rfl, by decide +kernel, rfl, by decide +kernel, by decide +kernel⟩
abbrev s_mark_bounds : Stmt := topS 15
abbrev nm_mark_bounds : List Str := ["frame", "here", "deed", "_", "source", "kind", "said", "early", "late"]
theorem sc_mark_bounds : FnScope nm_mark_bounds ["frame", "here", "deed"] (defScope s_mark_bounds) := ⟨rfl, rfl, rfl, by decide +kernel, rfl, by decide +kernel, by decide +kernel⟩
abbrev s_Frame_link_part : Stmt := inClass (topS 21) 3
abbrev nm_Frame_link_part : List Str := ["self", "link"]
theorem sc_Frame_link_part : FnScope nm_Frame_link_part ["self", "link"] (defScope s_Frame_link_part) := ⟨rfl, rfl, rfl, by decide +kernel, rfl, by decide +kernel, by decide +kernel⟩
abbrev s_hear_bounds : Stmt := topS 16
abbrev nm_hear_bounds : List Str := ["frame", "here", "deed", "kind", "sending", "bounds", "_", "link", "number", "part", "least", "most"]
theorem sc_hear_bounds : FnScope nm_hear_bounds ["frame", "here", "deed", "kind"] (defScope s_hear_bounds) := ⟨rfl, rfl, rfl, by decide +kernel, rfl, by decide +kernel, by decide +kernel⟩
abbrev s_event_bounds : Stmt := topS 17
abbrev nm_event_bounds : List Str := ["frame", "record", "hands", "kind", "here", "deed", "bounds", "device", "number", "event", "place", "clock"]
theorem sc_event_bounds : FnScope nm_event_bounds ["frame", "record", "hands", "kind"] (defScope s_event_bounds) := ⟨rfl, rfl, rfl, by decide +kernel, rfl, by decide +kernel, by decide +kernel⟩
abbrev s_heard_kind : Stmt := topS 18
abbrev nm_heard_kind : List Str := ["frame", "view", "deed", "sender", "sending"]
theorem sc_heard_kind : FnScope nm_heard_kind ["frame", "view", "deed"] (defScope s_heard_kind) := ⟨rfl, rfl, rfl, by decide +kernel, rfl, by decide +kernel, by decide +kernel⟩
abbrev s_view_bounds : Stmt := topS 19
abbrev nm_view_bounds : List Str := ["frame", "view", "bounds", "device", "events", "hands", "number", "kind", "more"]
theorem sc_view_bounds : FnScope nm_view_bounds ["frame", "view"] (defScope s_view_bounds) := ⟨rfl, rfl, rfl, by decide +kernel, rfl, by decide +kernel, by decide +kernel⟩
abbrev s__law_draws : Stmt := topS 23
abbrev nm__law_draws : List Str := ["script", "count", "rows", "place", "cell"]
theorem sc__law_draws : FnScope nm__law_draws ["script", "count"] (defScope s__law_draws) := ⟨rfl, rfl, rfl, by decide +kernel, rfl, by decide +kernel, by decide +kernel⟩
abbrev s__law_take : Stmt := topS 24
abbrev nm__law_take : List Str := ["rows", "at", "many", "got"]
theorem sc__law_take : FnScope nm__law_take ["rows", "at", "many"] (defScope s__law_take) := ⟨rfl, rfl, rfl, by decide +kernel, rfl, by decide +kernel, by decide +kernel⟩
abbrev s__law_kinds : Stmt := topS 25
abbrev nm__law_kinds : List Str := ["rows", "at", "kinds", "j", "low"]
theorem sc__law_kinds : FnScope nm__law_kinds ["rows", "at"] (defScope s__law_kinds) := ⟨rfl, rfl, rfl, by decide +kernel, rfl, by decide +kernel, by decide +kernel⟩
abbrev s__law_run : Stmt := topS 26
abbrev nm__law_run : List Str := ["clock", "rows", "amount", "kinds", "left", "k", "low", "high"]
theorem sc__law_run : FnScope nm__law_run ["clock", "rows", "amount", "kinds"] (defScope s__law_run) := ⟨rfl, rfl, rfl, by decide +kernel, rfl, by decide +kernel, by decide +kernel⟩
abbrev s__law_begin : Stmt := topS 27
abbrev nm__law_begin : List Str := ["clock", "rows", "kinds", "low"]
theorem sc__law_begin : FnScope nm__law_begin ["clock", "rows", "kinds"] (defScope s__law_begin) := ⟨rfl, rfl, rfl, by decide +kernel, rfl, by decide +kernel, by decide +kernel⟩
abbrev s__law_deed : Stmt := topS 28
abbrev nm__law_deed : List Str := ["rows", "at", "clock", "kinds", "way", "after", "deed"]
theorem sc__law_deed : FnScope nm__law_deed ["rows", "at", "clock", "kinds"] (defScope s__law_deed) := ⟨rfl, rfl, rfl, by decide +kernel, rfl, by decide +kernel, by decide +kernel⟩
abbrev s_Frame___init__ : Stmt := inClass (topS 21) 0
abbrev nm_Frame___init__ : List Str := ["self", "devices", "clocks", "links", "sources", "faults"]
theorem sc_Frame___init__ : FnScope nm_Frame___init__ ["self", "devices", "clocks", "links", "sources", "faults"] (defScope s_Frame___init__) := ⟨rfl, rfl, rfl, by decide +kernel, rfl, by decide +kernel, by decide +kernel⟩
abbrev s_law : Stmt := topS 29
abbrev nm_law : List Str := ["script", "rows", "kinds", "goes_on", "frame", "clock", "now", "times", "events", "n", "at", "asleep", "gap", "shown", "deed", "first", "second", "amount", "part"]
theorem sc_law : FnScope nm_law ["script"] (defScope s_law) := ⟨rfl, rfl, rfl, by decide +kernel, rfl, by decide +kernel, by decide +kernel⟩
/-- what the top has made of the class -/
structure Ck_Frame (K : PySem.W.Frag) (mg : Str → Option Value) (C : Addr) : Prop where
  cl : Cls K C
  mg : mg "Frame" = some (.ref C)
  n_devices : NoAttr K C "devices"
  n_clocks : NoAttr K C "clocks"
  n_links : NoAttr K C "links"
  n_sources : NoAttr K C "sources"
  n_faults : NoAttr K C "faults"
/-- its attributes -/
def ff_Frame (v_devices v_clocks v_links v_sources v_faults : V) : List (Str × V) := putF "faults" v_faults (putF "sources" v_sources (putF "links" v_links (putF "clocks" v_clocks (putF "devices" v_devices ([])))))
theorem lk_Frame_devices {v_devices v_clocks v_links v_sources v_faults : V} : (ff_Frame v_devices v_clocks v_links v_sources v_faults).lookup ("devices" : Str) = some v_devices := by
  unfold ff_Frame; rw [lookup_putF, if_neg (by decide +kernel : ¬ (("devices" : Str) = "faults"))]; rw [lookup_putF, if_neg (by decide +kernel : ¬ (("devices" : Str) = "sources"))]; rw [lookup_putF, if_neg (by decide +kernel : ¬ (("devices" : Str) = "links"))]; rw [lookup_putF, if_neg (by decide +kernel : ¬ (("devices" : Str) = "clocks"))]; rw [lookup_putF, if_pos rfl]
theorem lk_Frame_clocks {v_devices v_clocks v_links v_sources v_faults : V} : (ff_Frame v_devices v_clocks v_links v_sources v_faults).lookup ("clocks" : Str) = some v_clocks := by
  unfold ff_Frame; rw [lookup_putF, if_neg (by decide +kernel : ¬ (("clocks" : Str) = "faults"))]; rw [lookup_putF, if_neg (by decide +kernel : ¬ (("clocks" : Str) = "sources"))]; rw [lookup_putF, if_neg (by decide +kernel : ¬ (("clocks" : Str) = "links"))]; rw [lookup_putF, if_pos rfl]
theorem lk_Frame_links {v_devices v_clocks v_links v_sources v_faults : V} : (ff_Frame v_devices v_clocks v_links v_sources v_faults).lookup ("links" : Str) = some v_links := by
  unfold ff_Frame; rw [lookup_putF, if_neg (by decide +kernel : ¬ (("links" : Str) = "faults"))]; rw [lookup_putF, if_neg (by decide +kernel : ¬ (("links" : Str) = "sources"))]; rw [lookup_putF, if_pos rfl]
theorem lk_Frame_sources {v_devices v_clocks v_links v_sources v_faults : V} : (ff_Frame v_devices v_clocks v_links v_sources v_faults).lookup ("sources" : Str) = some v_sources := by
  unfold ff_Frame; rw [lookup_putF, if_neg (by decide +kernel : ¬ (("sources" : Str) = "faults"))]; rw [lookup_putF, if_pos rfl]
theorem lk_Frame_faults {v_devices v_clocks v_links v_sources v_faults : V} : (ff_Frame v_devices v_clocks v_links v_sources v_faults).lookup ("faults" : Str) = some v_faults := by
  unfold ff_Frame; rw [lookup_putF, if_pos rfl]
theorem no_Frame {v_devices v_clocks v_links v_sources v_faults : V} {m : Str} (h_devices : ¬ m = "devices" := by decide +kernel) (h_clocks : ¬ m = "clocks" := by decide +kernel) (h_links : ¬ m = "links" := by decide +kernel) (h_sources : ¬ m = "sources" := by decide +kernel) (h_faults : ¬ m = "faults" := by decide +kernel) : (ff_Frame v_devices v_clocks v_links v_sources v_faults).lookup m = none := by
  unfold ff_Frame; rw [lookup_putF, if_neg h_faults]; rw [lookup_putF, if_neg h_sources]; rw [lookup_putF, if_neg h_links]; rw [lookup_putF, if_neg h_clocks]; rw [lookup_putF, if_neg h_devices]; rfl
/-- a frame of data, as an instance; own: its lists -/
def FrI (K : PySem.W.Frag) (CF : Addr) (H : Hp) (p : Addr) (F : Fm) (own : List Addr) : Prop := ∃ dx d c l s, own = [p, d, c, l, s] ∧ H p = some (.ins CF dx (ff_Frame (.ref d) (.ref c) (.ref l) (.ref s) (.int F.faults))) ∧ LsI K H d (F.devices.map PyData.str) ∧ LsI K H c (F.clocks.map clP) ∧ LsI K H l (F.links.map lkP) ∧ LsI K H s (F.sources.map srP)
theorem FrI.keep {K : PySem.W.Frag} {CF : Addr} {H H' : Hp} {p : Addr} {F : Fm} {own : List Addr} (e : Same H H') (h : FrI K CF H p F own) : FrI K CF H' p F own := by
  obtain ⟨dx, d, c, l, s, h0, h1, h2, h3, h4, h5⟩ := h
  exact ⟨dx, d, c, l, s, h0, e _ _ h1, h2.keep e, h3.keep e, h4.keep e, h5.keep e⟩
theorem FrI.but {K : PySem.W.Frag} {CF : Addr} {H H' : Hp} {p o : Addr} {xs : List V} {F : Fm} {own : List Addr} (e : But o H H') (ho : H o = some (.lst xs)) (n : o ∉ own) (h : FrI K CF H p F own) : FrI K CF H' p F own := by
  obtain ⟨dx, d, c, l, s, h0, h1, h2, h3, h4, h5⟩ := h
  rw [h0] at n
  simp only [List.mem_cons, List.not_mem_nil, or_false, not_or] at n
  exact ⟨dx, d, c, l, s, h0, e _ _ (Ne.symm n.1) h1, h2.but e ho (Ne.symm n.2.1), h3.but e ho (Ne.symm n.2.2.1), h4.but e ho (Ne.symm n.2.2.2.1), h5.but e ho (Ne.symm n.2.2.2.2)⟩
theorem FrI.none {K : PySem.W.Frag} {CF : Addr} {H : Hp} {p o : Addr} {F : Fm} {own : List Addr} (h : FrI K CF H p F own) (n : H o = none) : o ∉ own := by
  obtain ⟨dx, d, c, l, s, h0, h1, ⟨_, h2, _⟩, ⟨_, h3, _⟩, ⟨_, h4, _⟩, ⟨_, h5, _⟩⟩ := h
  rw [h0]
  simp only [List.mem_cons, List.not_mem_nil, or_false, not_or]
  exact ⟨(ne_of_none h1 n).symm, (ne_of_none h2 n).symm, (ne_of_none h3 n).symm, (ne_of_none h4 n).symm, (ne_of_none h5 n).symm⟩
theorem mk_same {H : Hp} {x dx C : Addr} (nx : H x = none) (ndx : H dx = none) : Same H (upd (upd H dx (.own x)) x (.ins C dx [])) := fun c w hc => by
  rw [upd_ne (ne_of_none hc nx), upd_ne (ne_of_none hc ndx)]
  exact hc
theorem Wd.made {K : PySem.W.Frag} {CF : Addr} {H H8 : Hp} {r : Addr} {n : Nat} {ls : List (Addr × List PyData)} {is : List (Addr × HO)} (w : Wd K H r n ls is) {x dx d1 d2 d3 d4 : Addr} {o : HO} {e1 e2 e3 e4 : List PyData} (nx : H x = none) (ndx : H dx = none)
    (b8 : But x (upd (upd H dx (.own x)) x (.ins CF dx [])) H8) (hx : H8 x = some o) (f1 : LsI K H8 d1 e1) (f2 : LsI K H8 d2 e2) (f3 : LsI K H8 d3 e3) (f4 : LsI K H8 d4 e4)
    (m1 : (upd (upd H dx (.own x)) x (.ins CF dx [])) d1 = Option.none) (m2 : (upd (upd H dx (.own x)) x (.ins CF dx [])) d2 = Option.none) (m3 : (upd (upd H dx (.own x)) x (.ins CF dx [])) d3 = Option.none) (m4 : (upd (upd H dx (.own x)) x (.ins CF dx [])) d4 = Option.none) (nd : [d1, d2, d3, d4].Nodup) :
    Same H H8 ∧ Wd K H8 r n ((d1, e1) :: (d2, e2) :: (d3, e3) :: (d4, e4) :: ls) ((x, o) :: is) := by
  have sx := mk_same (C := CF) nx ndx
  have ex : (upd (upd H dx (.own x)) x (.ins CF dx [])) x = some (.ins CF dx []) := upd_same
  generalize upd (upd H dx (.own x)) x (.ins CF dx []) = H7 at *
  have s68 : Same H H8 := fun c u hc => b8 _ _ (ne_of_none hc nx) (sx _ _ hc)
  have hxn : ∀ d, H7 d = Option.none → d ≠ x := fun d hd e => by rw [e, ex] at hd; cases hd
  refine ⟨s68, w.news (ls2 := [(d1, e1), (d2, e2), (d3, e3), (d4, e4)]) (is2 := [(x, o)]) s68 (fun p hp => ?_) (fun p hp => ?_) ?_⟩
  · simp only [List.mem_cons, List.not_mem_nil, or_false] at hp
    rcases hp with e | e | e | e <;> subst e
    · exact ⟨f1, sx.free m1⟩
    · exact ⟨f2, sx.free m2⟩
    · exact ⟨f3, sx.free m3⟩
    · exact ⟨f4, sx.free m4⟩
  · rw [List.mem_singleton.mp hp]
    exact ⟨hx, nx⟩
  · show ([d1, d2, d3, d4] ++ [x]).Nodup
    rw [List.nodup_append]
    refine ⟨nd, by simp, fun c hc y hy e => ?_⟩
    rw [List.mem_singleton.mp hy] at e
    simp only [List.mem_cons, List.not_mem_nil, or_false] at hc
    rcases hc with z | z | z | z <;> subst z
    · exact hxn _ m1 e
    · exact hxn _ m2 e
    · exact hxn _ m3 e
    · exact hxn _ m4 e
/-- a frame among the things of a bundle -/
def FrW (CF x : Addr) (F : Fm) (ls : List (Addr × List PyData)) (is : List (Addr × HO)) : Prop := ∃ dx d1 d2 d3 d4, (x, HO.ins CF dx (ff_Frame (.ref d1) (.ref d2) (.ref d3) (.ref d4) (.int F.faults))) ∈ is ∧ (d1, F.devices.map PyData.str) ∈ ls ∧ (d2, F.clocks.map clP) ∈ ls ∧ (d3, F.links.map lkP) ∈ ls ∧ (d4, F.sources.map srP) ∈ ls
theorem FrW.fr {K : PySem.W.Frag} {H : Hp} {r : Addr} {n : Nat} {CF x : Addr} {F : Fm} {ls : List (Addr × List PyData)} {is : List (Addr × HO)} (f : FrW CF x F ls is) (w : Wd K H r n ls is) : ∃ own, FrI K CF H x F own := by
  obtain ⟨dx, d1, d2, d3, d4, h0, h1, h2, h3, h4⟩ := f
  exact ⟨_, dx, d1, d2, d3, d4, rfl, w.ia _ h0, w.la _ h1, w.la _ h2, w.la _ h3, w.la _ h4⟩
theorem FrW.mono {CF x : Addr} {F : Fm} {ls ls' : List (Addr × List PyData)} {is : List (Addr × HO)} (f : FrW CF x F ls is) (h : ∀ p ∈ ls, p ∈ ls') : FrW CF x F ls' is := by
  obtain ⟨dx, d1, d2, d3, d4, h0, h1, h2, h3, h4⟩ := f
  exact ⟨dx, d1, d2, d3, d4, h0, h _ h1, h _ h2, h _ h3, h _ h4⟩
section
variable {P : Program} {w : World} {K : PySem.W.Frag} {mg : Str → Option Value} {base : Heap}
def sp_Frame_clocks_of (K : PySem.W.Frag) (CF : Addr) : Sp := fun vs H Q _ => ∃ (p : Addr) (F : Fm) (own : List Addr) (j : Int), vs = [.ref p, .int j] ∧ FrI K CF H p F own ∧ F.clocks.length ≤ 100 ∧ ∀ (l : Addr) (H' : Hp), Same H H' → H l = none → H' l = some (.lst ((cks F j).map V.int)) → Q (.ref l) H'
theorem ok_Frame_clocks_of {f : Addr} {fd : FuncData} {CF : Addr} (TF : Ck_Frame K mg CF) (D : Mt K CF "clocks_of" "Frame.clocks_of" s_Frame_clocks_of ["self", "device"] f fd) (T : Txt K mg) : FnOk P w K mg base CX0 1 f fd ["self", "device"] (sp_Frame_clocks_of K CF) := by
  refine D.F.ok sc_Frame_clocks_of (fun vs H Q E h => ?_) (fun cdv A outer s H vs Q E hr h => ?_)
  · obtain ⟨p, F, own, j, rfl, _⟩ := h
    rfl
  obtain ⟨p, F, own, j, rfl, ⟨dx, d, c, l, s, _, hp, _, ⟨vs, hc, hI⟩, _, _⟩, h100, q⟩ := h
  refine ⟨_, (pss_one (ps_ret (pe_lc (own := [("number", 2), ("clock", 3)]) (g := (gTup K 2 (gCons (gName 2) (gCons (gName 3) gNil)))) (tt := _) rfl sc_Frame_clocks_of.nd (pi_enum rfl T.enumerate (pa_cons (pe_fld (pv 0) rfl) pa_nil)) (blkOk_by (own := [("number", 2), ("clock", 3)]) (N := nm_Frame_clocks_of) (sc := defScope s_Frame_clocks_of) (by decide +kernel)) (fun _ _ _ _ _ => (pg_tup rfl (pgs_cons (pg_name (i := 2) sc_Frame_clocks_of.nd rfl (Or.inl rfl)) (pgs_cons (pg_name (i := 3) sc_Frame_clocks_of.nd rfl (Or.inl rfl)) pgs_nil)))) (fun _ _ _ _ _ => (pts_one (pt_cmpR op_eq (pe_ix (r := rIxT K) ix_tup (pv 3) pe_int (fun _ _ => rfl)) (pv 1) (nomark _)))) (fun _ _ _ _ _ => (pv 2))))), ?_⟩
  have e1 : vs.length = F.clocks.length := by rw [hI.len, List.length_map]
  refine ⟨_, rfl, p, CF, dx, _, _, rfl, hp, TF.cl, TF.n_clocks, lk_Frame_clocks, c, _, rfl, SqL.of hc, fun D hD => lc_it (walk_enum (K := K) (a := c) (xs := vs)) (fun i H' => Same H H' ∧ H' D = some (.lst ((ckN F.clocks j i).map V.int))) ⟨same_upd hD, upd_same⟩ (fun i H' _ p => SqL.of (p.1 _ _ hc)) ?_ ?_⟩
  · rintro i x H1 H2 hi ⟨sm, eD⟩ ⟨T, x1, x2, rfl, nT, rfl, h1, h2⟩
    cases h1
    obtain ⟨d2, hd2, hi2⟩ := hI.get' h2
    obtain ⟨C, hc1, rfl⟩ := map_get hd2
    have s2 : Same H1 (upd H1 T (.tup [.int (i : Nat), x2])) := same_upd nT
    have e2 : (upd H1 T (.tup [.int (i : Nat), x2])) T = some (.tup [.int (i : Nat), x2]) := upd_same
    have nDT : D ≠ T := ne_of_none eD nT
    generalize upd H1 T (.tup [.int (i : Nat), x2]) = H2 at *
    obtain ⟨ac, tc, ws, rfl, hct, _, _⟩ := Im.uncl (Im.mono (.of (fun b u h => s2 _ _ (sm b u h))) _ hi2)
    have hcl := ckN_len F.clocks j i
    refine ⟨T, _, rfl, SqT.of e2, rfl, _, _, rfl, _, _, rfl, rfl, rfl, _, rfl, _, _, _, _, rfl, rfl, hct, at_of (j := 1) rfl rfl, _, rfl, rfl, _, rfl, ite2 (fun g => ?_) (fun g => ?_)⟩
    · have ge : C.dev = j := vint_eq g
      refine ⟨_, rfl, _, s2 _ _ eD, by rw [List.length_map]; exact sizes' (by omega), fun b u h => ?_, ?_⟩
      · rw [upd_ne (ne_of_none h hD)]
        exact s2 _ _ (sm b u h)
      · rw [upd_same, ckN_yes hc1 ge, List.map_append]
        rfl
    · have ge : C.dev ≠ j := vint_ne g
      refine ⟨fun b u h => s2 _ _ (sm b u h), ?_⟩
      rw [ckN_no hc1 ge]
      exact s2 _ _ eD
  · rintro H' ⟨sm, e⟩
    rw [e1] at e
    exact q D H' sm hD e
def sp_first_hands (K : PySem.W.Frag) (CF : Addr) : Sp := fun vs H Q _ => ∃ (p : Addr) (F : Fm) (own : List Addr) (j : Int), vs = [.ref p, .int j] ∧ FrI K CF H p F own ∧ F.clocks.length ≤ 100 ∧ ∀ (l : Addr) (H' : Hp), Same H H' → H l = none → LsI K H' l ((List.replicate (cks F j).length dfH).map hdP) → Q (.ref l) H'
theorem ok_first_hands {f : Addr} {fd : FuncData} {CF : Addr} (TF : Ck_Frame K mg CF) (D : Df K mg "first_hands" s_first_hands ["frame", "device"] f fd) (T : Txt K mg) {f_Frame_clocks_of : Addr} {fd_Frame_clocks_of : FuncData} (M_Frame_clocks_of : Mt K CF "clocks_of" "Frame.clocks_of" s_Frame_clocks_of ["self", "device"] f_Frame_clocks_of fd_Frame_clocks_of) (G_Frame_clocks_of : FnOk P w K mg base CX0 1 f_Frame_clocks_of fd_Frame_clocks_of ["self", "device"] (sp_Frame_clocks_of K CF)) : FnOk P w K mg base CX0 2 f fd ["frame", "device"] (sp_first_hands K CF) := by
  refine D.F.ok sc_first_hands (fun vs H Q E h => ?_) (fun cdv A outer s H vs Q E hr h => ?_)
  · obtain ⟨p, F, own, j, rfl, _⟩ := h
    rfl
  obtain ⟨p, F, own, j, rfl, hF, h100, q⟩ := h
  refine ⟨_, (pss_one (ps_ret (pe_lc (own := [("_", 2)]) (g := gName 2) (tt := tYes) rfl sc_first_hands.nd (pi_list (pe_meth (pv 0) TF.cl M_Frame_clocks_of.m G_Frame_clocks_of (hr.mono (by decide)) M_Frame_clocks_of.b .nil pass0 (pa_cons (pv 1) pa_nil))) (blkOk_by (own := [("_", 2)]) (N := nm_first_hands) (sc := defScope s_first_hands) (by decide +kernel)) (fun _ _ _ _ _ => (pg_name (i := 2) sc_first_hands.nd rfl (Or.inl rfl))) (fun _ _ _ _ _ => pts_nil) (fun _ _ _ _ _ => (pe_tup (pa_cons pe_non (pa_cons pe_int (pa_cons pe_int pa_nil)))))))), ?_⟩
  have hF0 := hF
  obtain ⟨dx, d, c, l, s, _, hp, _⟩ := hF
  refine ⟨_, rfl, p, dx, _, rfl, hp, no_Frame, _, rfl, p, F, own, j, rfl, hF0, h100, fun l1 H1 s1 n1 e1 => ?_⟩
  have hcl : (cks F j).length ≤ 100 := Nat.le_trans (ckN_len _ _ _) h100
  refine ⟨_, rfl, ⟨_, SqL.of e1⟩, fun D hD => lc_list (K := K) (a := l1) (xs := (cks F j).map V.int) (fun i H' => Same H1 H' ∧ LsI K H' D ((List.replicate i dfH).map hdP)) ⟨same_upd hD, _, upd_same, ImL.nil_⟩ (fun i H' _ p => SqL.of (p.1 _ _ e1)) ?_ ?_⟩
  · rintro i x H2 hx ⟨sm, hL⟩
    have hi : i < (cks F j).length := by
      have := (List.getElem?_eq_some_iff.mp hx).1
      rwa [List.length_map] at this
    refine ⟨rfl, (by show 3 ≤ sizeLine; decide), fun a3 n3 => ?_⟩
    generalize e3 : upd H2 a3 _ = H3
    obtain ⟨s3, h3⟩ := fr e3 n3
    clear e3
    obtain ⟨ws, hw, hwl, hL2⟩ := (hL.keep s3).snoc (hdI (h := dfH) (SqT.of h3) Im.non_)
    rw [List.length_map, List.length_replicate] at hwl
    refine ⟨ws, hw, sizes' (by omega), fun b u h => ?_, ?_⟩
    · rw [upd_ne (ne_of_none h hD)]
      exact s3 _ _ (sm b u h)
    · rw [List.replicate_succ', List.map_append]
      exact hL2
  · rintro H2 ⟨sm, hL⟩
    rw [List.length_map] at hL
    exact q D H2 (s1.trans sm) (s1.free hD) hL
def sp_event_point (K : PySem.W.Frag) : Sp := fun vs H Q _ => ∃ (a : Addr) (d n : Int), vs = [.ref a] ∧ SqT K H a [.int d, .int n] ∧ ∀ (v : V) (H' : Hp), Same H H' → Im K H' (ptP ⟨d, n, -1⟩) v → Q v H'
theorem ok_event_point {f : Addr} {fd : FuncData} (D : Df K mg "event_point" s_event_point ["event"] f fd) (T : Txt K mg) {t_NO_CLOCK : Tok} (g_NO_CLOCK : mg "NO_CLOCK" = some (.int (-1) t_NO_CLOCK)) : FnOk P w K mg base CX0 1 f fd ["event"] (sp_event_point K) := by
  refine D.F.ok sc_event_point (fun vs H Q E h => ?_) (fun cdv A outer s H vs Q E hr h => ?_)
  · obtain ⟨a, d, n, rfl, _⟩ := h
    rfl
  obtain ⟨a, d, n, rfl, h, q⟩ := h
  refine ⟨_, (pss_cons (ps_asg (pv 0) (pg_tup rfl (pgs_cons (pg_name (i := 1) sc_event_point.nd rfl (Or.inl rfl)) (pgs_cons (pg_name (i := 2) sc_event_point.nd rfl (Or.inl rfl)) pgs_nil))))
    (pss_one (ps_ret (pe_tup (pa_cons (pv 1) (pa_cons (pv 2) (pa_cons (pe_glob (v := V.int (-1)) rfl g_NO_CLOCK ⟨_, rfl⟩) pa_nil))))))), ?_⟩
  refine ⟨_, rfl, _, _, rfl, h, rfl, _, _, rfl, _, _, rfl, rfl, ?_⟩
  refine ⟨_, rfl, _, rfl, (by show 3 ≤ sizeLine; decide), fun a1 n1 => ?_⟩
  generalize e1 : upd H a1 _ = H1
  obtain ⟨s1, h1⟩ := fr e1 n1
  clear e1
  exact q _ H1 s1 (ptI (p := ⟨d, n, -1⟩) (SqT.of h1))
def sp_at_least_later (K : PySem.W.Frag) : Sp := fun vs H Q _ => ∃ (x y : V) (p q : Pt) (lo pa : Int), vs = [x, y, .int lo, .int pa] ∧ Im K H (ptP p) x ∧ Im K H (ptP q) y ∧ ∀ (v : V) (H' : Hp), Same H H' → Im K H' (bdP ⟨q, p, -lo, pa⟩) v → Q v H'
theorem ok_at_least_later {f : Addr} {fd : FuncData} (D : Df K mg "at_least_later" s_at_least_later ["first", "second", "least", "part"] f fd) (T : Txt K mg) : FnOk P w K mg base CX0 1 f fd ["first", "second", "least", "part"] (sp_at_least_later K) := by
  refine D.F.ok sc_at_least_later (fun vs H Q E h => ?_) (fun cdv A outer s H vs Q E hr h => ?_)
  · obtain ⟨x, y, p, q, lo, pa, rfl, _⟩ := h
    rfl
  obtain ⟨x, y, p, qq, lo, pa, rfl, hx, hy, q⟩ := h
  refine ⟨_, (pss_one (ps_ret (pe_tup (pa_cons (pv 1) (pa_cons (pv 0) (pa_cons (pe_un un_neg (pv 2)) (pa_cons (pv 3) pa_nil))))))), ?_⟩
  refine ⟨_, rfl, _, rfl, _, rfl, _, rfl, _, rfl, (by show 4 ≤ sizeLine; decide), fun a1 n1 => ?_⟩
  generalize e1 : upd H a1 _ = H1
  obtain ⟨s1, h1⟩ := fr e1 n1
  clear e1
  exact q _ H1 s1 (bdI (b := ⟨qq, p, -lo, pa⟩) (SqT.of h1) (Im.mono (.of s1) _ hy) (Im.mono (.of s1) _ hx))
def sp_from_to_later (K : PySem.W.Frag) : Sp := fun vs H Q _ => ∃ (x y : V) (p q : Pt) (lo hi pa : Int), vs = [x, y, .int lo, .int hi, .int pa] ∧ Im K H (ptP p) x ∧ Im K H (ptP q) y ∧ ∀ (a : Addr) (H' : Hp), Same H H' → H a = none → LsI K H' a ((ftl p q lo hi pa).map bdP) → Q (.ref a) H'
theorem ok_from_to_later {f : Addr} {fd : FuncData} (D : Df K mg "from_to_later" s_from_to_later ["first", "second", "least", "most", "part"] f fd) (T : Txt K mg) {f_at_least_later : Addr} {fd_at_least_later : FuncData} (D_at_least_later : Df K mg "at_least_later" s_at_least_later ["first", "second", "least", "part"] f_at_least_later fd_at_least_later) (G_at_least_later : FnOk P w K mg base CX0 1 f_at_least_later fd_at_least_later ["first", "second", "least", "part"] (sp_at_least_later K)) : FnOk P w K mg base CX0 2 f fd ["first", "second", "least", "most", "part"] (sp_from_to_later K) := by
  refine D.F.ok sc_from_to_later (fun vs H Q E h => ?_) (fun cdv A outer s H vs Q E hr h => ?_)
  · obtain ⟨x, y, p, q, lo, hi, pa, rfl, _⟩ := h
    rfl
  obtain ⟨x, y, p, qq, lo, hi, pa, rfl, hx, hy, q⟩ := h
  refine ⟨_, (pss_one (ps_ret (pe_lst (pa_cons (pe_tup (pa_cons (pv 0) (pa_cons (pv 1) (pa_cons (pv 3) (pa_cons (pv 4) pa_nil))))) (pa_cons (pe_call G_at_least_later (hr.mono (by decide)) rfl D_at_least_later.m D_at_least_later.F.kp D_at_least_later.b .nil pass0 (pa_cons (pv 0) (pa_cons (pv 1) (pa_cons (pv 2) (pa_cons (pv 4) pa_nil))))) pa_nil))))), ?_⟩
  refine ⟨_, rfl, _, rfl, _, rfl, _, rfl, (by show 4 ≤ sizeLine; decide), fun a1 n1 => ?_⟩
  generalize e1 : upd H a1 _ = H1
  obtain ⟨s1, h1⟩ := fr e1 n1
  clear e1
  have k1 := TupK.of s1
  refine ⟨_, rfl, _, rfl, _, rfl, _, rfl, x, y, p, qq, lo, pa, rfl, Im.mono k1 _ hx, Im.mono k1 _ hy, fun v H2 s2 i2 => ⟨(by show 2 ≤ sizeLine; decide), fun a3 n3 => ?_⟩⟩
  generalize e3 : upd H2 a3 _ = H3
  obtain ⟨s3, h3⟩ := fr e3 n3
  clear e3
  have s23 := s2.trans s3
  have k23 := TupK.of s23
  exact q a3 H3 (s1.trans s23) ((s1.trans s2).free n3) ⟨_, h3, ImL.cons_ (bdI (b := ⟨p, qq, hi, pa⟩) (SqT.of (s23 _ _ h1)) (Im.mono k23 _ (Im.mono k1 _ hx)) (Im.mono k23 _ (Im.mono k1 _ hy))) (ImL.cons_ (Im.mono (.of s3) _ i2) ImL.nil_)⟩
def sp_running_since (K : PySem.W.Frag) (CF : Addr) : Sp := fun vs H Q _ => ∃ (p : Addr) (F : Fm) (own : List Addr) (c : Int) (e : Ev) (h : HdM) (v x : V), vs = [.ref p, .int c, v, x] ∧ FrI K CF H p F own ∧ 0 ≤ c ∧ c < F.clocks.length ∧ Im K H (evP e) v ∧ e.deed.place < 9 ∧ Im K H (hdP h) x ∧ ∀ u, Im K H (opP (sinceM (clOf F c).goes e h)) u → Q u H
theorem ok_running_since {f : Addr} {fd : FuncData} {CF : Addr} (TF : Ck_Frame K mg CF) (D : Df K mg "running_since" s_running_since ["frame", "clock", "event", "hand"] f fd) (T : Txt K mg) : FnOk P w K mg base CX0 1 f fd ["frame", "clock", "event", "hand"] (sp_running_since K CF) := by
  refine D.F.ok sc_running_since (fun vs H Q E h => ?_) (fun cdv A outer s H vs Q E hr h => ?_)
  · obtain ⟨p, F, own, c, e, h, v, x, rfl, _⟩ := h
    rfl
  obtain ⟨p, F, own, c, e, h, v, x, rfl, ⟨dx, dd, cc, l, s, _, hp, _, ⟨vs, hc, hI⟩, _, _⟩, c0, c1, hv, h9, hx, q⟩ := h
  refine ⟨_, (pss_cons (ps_set (i := 4) sc_running_since.nd rfl (Or.inl rfl) (pe_ix ix_tup (pv 2) pe_int (fun _ _ => rfl)))
    (pss_cons (ps_set (i := 5) sc_running_since.nd rfl (Or.inl rfl) (pe_ix ix_tup (pv 2) pe_int (fun _ _ => rfl)))
    (pss_cons (ps_set (i := 6) sc_running_since.nd rfl (Or.inl rfl) (pe_ix ix_tup (pe_ix ix_list (pe_fld (pv 0) rfl) (pv 1) (fun _ _ => rfl)) pe_int (fun _ _ => rfl)))
    (pss_cons (ps_set (i := 7) sc_running_since.nd rfl (Or.inl rfl) (pe_or (pe_cmpR op_eq (pe_ix ix_tup (pv 5) pe_int (fun _ _ => rfl)) pe_str (nomark _)) (pe_one (pe_and (pv 4) (pe_one (pe_not (pv 6)))))))
    (pss_one (ps_ret (pe_ifExp (pt_val (pv 7)) pe_non (pe_ix ix_tup (pv 3) pe_int (fun _ _ => rfl))))))))), ?_⟩
  obtain ⟨ea, e1, e2, ed, e3, rfl, het, _, _, hdd, _⟩ := Im.unev hv
  obtain ⟨da, z, rest, rfl, hz, hdt, _⟩ := Im.undd h9 hdd
  obtain ⟨ha, hx1, rfl, hht, hpt⟩ := Im.unhd hx
  obtain ⟨d2, v2, g1, g2, g3⟩ := list_at hI c0 (by rw [List.length_map]; exact c1)
  obtain ⟨C, hC, rfl⟩ := map_get g1
  have eC : C = clOf F c := by
    have := getD_at (d := (⟨Str.empty, 0, false, []⟩ : Cl)) c0 c1
    rw [hC] at this
    exact Option.some.inj this
  obtain ⟨ca, ta, ws, rfl, hct, _, _⟩ := Im.uncl g3
  refine ⟨_, rfl, _, _, _, _, rfl, rfl, het, at_of (j := 0) rfl rfl, _, rfl, _, _, _, _, rfl, rfl, het, at_of (j := 3) rfl rfl, _, rfl, p, CF, dx, _, _, rfl, hp, TF.cl, TF.n_clocks, lk_Frame_clocks, _, rfl, _, _, _, _, rfl, rfl, SqL.of hc, g2, _, _, _, _, rfl, rfl, hct, at_of (j := 2) rfl rfl, ?_⟩
  refine ⟨_, rfl, _, _, _, _, rfl, rfl, hdt, at_of (j := 0) rfl rfl, rfl, _, rfl, ?_⟩
  rw [dn_is hz (show deedNames[8]? = some (Str.ofString "anew") from rfl)]
  rw [← eC] at q
  unfold sinceM at q
  cases h8 : decide (e.deed.place = 8) with
  | true =>
    rw [h8] at q
    refine iteT ⟨_, rfl, _, rfl, iteT ?_⟩
    exact q _ Im.non_
  | false =>
    rw [h8] at q
    refine iteF ⟨_, rfl, _, rfl, ?_⟩
    cases ha : e.asleep with
    | false =>
      rw [ha] at q
      refine iteF ⟨_, rfl, _, rfl, iteF ⟨_, rfl, _, _, _, _, rfl, rfl, hht, at_of (j := 0) rfl rfl, ?_⟩⟩
      exact q _ hpt
    | true =>
      rw [ha] at q
      refine iteT ⟨_, rfl, _, rfl, _, rfl, _, rfl, ?_⟩
      cases hg : C.goes with
      | true =>
        rw [hg] at q
        refine iteF ⟨_, rfl, _, _, _, _, rfl, rfl, hht, at_of (j := 0) rfl rfl, ?_⟩
        exact q _ hpt
      | false =>
        rw [hg] at q
        refine iteT ?_
        exact q _ Im.non_
def sp_clock_bounds (K : PySem.W.Frag) (CF : Addr) : Sp := fun vs H Q _ => ∃ (p ra : Addr) (F : Fm) (own : List Addr) (dev n c : Int) (e : Ev) (i : Nat) (h : HdM) (v x : V), vs = [.ref p, .ref ra, .int c, .int (i : Int), x] ∧ FrI K CF H p F own ∧ SqT K H ra [.int dev, .int n, v] ∧ 0 ≤ c ∧ c < F.clocks.length ∧ Im K H (evP e) v ∧ e.deed.place < 9 ∧ i < e.shown.length ∧ Im K H (hdP h) x ∧ Six (clOf F c).kinds h.kind ∧ KdC (kdOf (clOf F c).kinds h.kind) ∧
  ∀ (a : Addr) (H' : Hp), Same H H' → H a = none → LsI K H' a ((clockM (clOf F c) c dev n e (e.shown.getD i 0) h).map bdP) → Q (.ref a) H'
set_option maxHeartbeats 4000000 in
theorem ok_clock_bounds {f : Addr} {fd : FuncData} {CF : Addr} (TF : Ck_Frame K mg CF) (D : Df K mg "clock_bounds" s_clock_bounds ["frame", "record", "clock", "place", "hand"] f fd) (T : Txt K mg) {f_event_point : Addr} {fd_event_point : FuncData} (D_event_point : Df K mg "event_point" s_event_point ["event"] f_event_point fd_event_point) (G_event_point : FnOk P w K mg base CX0 1 f_event_point fd_event_point ["event"] (sp_event_point K)) {f_at_least_later : Addr} {fd_at_least_later : FuncData} (D_at_least_later : Df K mg "at_least_later" s_at_least_later ["first", "second", "least", "part"] f_at_least_later fd_at_least_later) (G_at_least_later : FnOk P w K mg base CX0 1 f_at_least_later fd_at_least_later ["first", "second", "least", "part"] (sp_at_least_later K)) {f_from_to_later : Addr} {fd_from_to_later : FuncData} (D_from_to_later : Df K mg "from_to_later" s_from_to_later ["first", "second", "least", "most", "part"] f_from_to_later fd_from_to_later) (G_from_to_later : FnOk P w K mg base CX0 2 f_from_to_later fd_from_to_later ["first", "second", "least", "most", "part"] (sp_from_to_later K)) {f_running_since : Addr} {fd_running_since : FuncData} (D_running_since : Df K mg "running_since" s_running_since ["frame", "clock", "event", "hand"] f_running_since fd_running_since) (G_running_since : FnOk P w K mg base CX0 1 f_running_since fd_running_since ["frame", "clock", "event", "hand"] (sp_running_since K CF)) : FnOk P w K mg base CX0 3 f fd ["frame", "record", "clock", "place", "hand"] (sp_clock_bounds K CF) := by
  refine D.F.ok sc_clock_bounds (fun vs H Q E h => ?_) (fun cdv A outer s H vs Q E hr h => ?_)
  · obtain ⟨p, ra, F, own, dev, n, c, e, i, h, v, x, rfl, _⟩ := h
    rfl
  obtain ⟨p, ra, F, own, dev, n, c, e, i, h, v, x, rfl, hF, hra, c0, c1, hv, h9, hi, hx, h6, hkd, q⟩ := h
  refine ⟨_, (pss_cons (ps_asg (pv 1) (pg_tup rfl (pgs_cons (pg_name (i := 10) sc_clock_bounds.nd rfl (Or.inl rfl)) (pgs_cons (pg_name (i := 11) sc_clock_bounds.nd rfl (Or.inl rfl)) (pgs_cons (pg_name (i := 12) sc_clock_bounds.nd rfl (Or.inl rfl)) pgs_nil)))))
    (pss_cons (ps_set (i := 5) sc_clock_bounds.nd rfl (Or.inl rfl) (pe_call G_event_point (hr.mono (by decide)) rfl D_event_point.m D_event_point.F.kp D_event_point.b .nil pass0 (pa_cons (pe_tup (pa_cons (pv 10) (pa_cons (pv 11) pa_nil))) pa_nil)))
    (pss_cons (ps_set (i := 6) sc_clock_bounds.nd rfl (Or.inl rfl) (pe_tup (pa_cons (pv 10) (pa_cons (pv 11) (pa_cons (pv 2) pa_nil)))))
    (C8.pss_cut (ps_asg (pe_ix ix_tup (pe_ix ix_tup (pe_ix ix_list (pe_fld (pv 0) rfl) (pv 2) (fun _ _ => rfl)) pe_int (fun _ _ => rfl)) (pe_ix ix_tup (pv 4) pe_int (fun _ _ => rfl)) (fun _ _ => rfl)) (pg_tup rfl (pgs_cons (pg_name (i := 13) sc_clock_bounds.nd rfl (Or.inl rfl)) (pgs_cons (pg_name (i := 14) sc_clock_bounds.nd rfl (Or.inl rfl)) (pgs_cons (pg_name (i := 15) sc_clock_bounds.nd rfl (Or.inl rfl)) pgs_nil)))))
    (pss_cons (ps_set (i := 7) sc_clock_bounds.nd rfl (Or.inl rfl) (pe_call G_running_since (hr.mono (by decide)) rfl D_running_since.m D_running_since.F.kp D_running_since.b .nil pass0 (pa_cons (pv 0) (pa_cons (pv 2) (pa_cons (pv 12) (pa_cons (pv 4) pa_nil))))))
    (pss_cons (ps_if (pt_cmpR op_isN (pv 7) pe_non (nomark _))
      (pss_one (ps_ret (pe_call G_from_to_later (hr.mono (by decide)) rfl D_from_to_later.m D_from_to_later.F.kp D_from_to_later.b .nil pass0 (pa_cons (pv 6) (pa_cons (pv 5) (pa_cons pe_int (pa_cons (pv 15) (pa_cons (pv 2) pa_nil))))))))
      pss_nil)
    (C8.pss_cut (ps_set (i := 8) sc_clock_bounds.nd rfl (Or.inl rfl) (pe_op op_sub (pe_ix ix_tup (pe_ix ix_tup (pv 12) pe_int (fun _ _ => rfl)) (pv 3) (fun _ _ => rfl)) (pe_ix ix_tup (pv 4) pe_int (fun _ _ => rfl))))
    (pss_cons (ps_if (pt_cmpR op_eq (pv 8) pe_int (nomark _))
      (pss_one (ps_ret (pe_call G_from_to_later (hr.mono (by decide)) rfl D_from_to_later.m D_from_to_later.F.kp D_from_to_later.b .nil pass0 (pa_cons (pv 7) (pa_cons (pv 5) (pa_cons pe_int (pa_cons (pv 15) (pa_cons (pv 2) pa_nil))))))))
      pss_nil)
    (pss_cons (ps_set (i := 9) sc_clock_bounds.nd rfl (Or.inl rfl) (pe_call G_from_to_later (hr.mono (by decide)) rfl D_from_to_later.m D_from_to_later.F.kp D_from_to_later.b .nil pass0 (pa_cons (pv 7) (pa_cons (pv 6) (pa_cons (pe_op op_mul (pv 14) (pv 8)) (pa_cons (pe_op op_mul (pv 15) (pv 8)) (pa_cons (pv 2) pa_nil)))))))
    (pss_cons (ps_expr (pe_bm PySem.F.plainAttrs_list PySem.F.slot_list_append PySem.F.type_list_append mt_append (pv 9) (pa_cons (pe_call G_at_least_later (hr.mono (by decide)) rfl D_at_least_later.m D_at_least_later.F.kp D_at_least_later.b .nil pass0 (pa_cons (pv 7) (pa_cons (pv 6) (pa_cons pe_int (pa_cons (pv 2) pa_nil))))) pa_nil)))
    (pss_cons (ps_expr (pe_bm PySem.F.plainAttrs_list PySem.F.slot_list_append PySem.F.type_list_append mt_append (pv 9) (pa_cons (pe_call G_at_least_later (hr.mono (by decide)) rfl D_at_least_later.m D_at_least_later.F.kp D_at_least_later.b .nil pass0 (pa_cons (pe_call G_event_point (hr.mono (by decide)) rfl D_event_point.m D_event_point.F.kp D_event_point.b .nil pass0 (pa_cons (pe_tup (pa_cons (pv 10) (pa_cons (pe_op op_sub (pv 11) pe_int) pa_nil))) pa_nil)) (pa_cons (pv 6) (pa_cons (pe_op op_mul (pv 14) (pe_op op_sub (pv 8) pe_int)) (pa_cons (pv 2) pa_nil))))) pa_nil)))
    (pss_cons (ps_expr (pe_bm PySem.F.plainAttrs_list PySem.F.slot_list_extend PySem.F.type_list_extend mt_extend (pv 9) (pa_cons (pe_call G_from_to_later (hr.mono (by decide)) rfl D_from_to_later.m D_from_to_later.F.kp D_from_to_later.b .nil pass0 (pa_cons (pv 6) (pa_cons (pv 5) (pa_cons pe_int (pa_cons (pv 15) (pa_cons (pv 2) pa_nil)))))) pa_nil)))
    (pss_one (ps_ret (pv 9))))))))))))))), ?_⟩
  have hF0 := hF
  have hv0 := hv
  have hx0 := hx
  obtain ⟨dx, dd, cc, l, s, _, hp, _, ⟨vs, hc, hI⟩, _, _⟩ := hF
  obtain ⟨ea, e1, e2, ed, e3, rfl, het, i1, _, _, _⟩ := Im.unev hv
  obtain ⟨sa, rfl, hst⟩ := Im.unints i1
  obtain ⟨ha, hx1, rfl, hht, hpt⟩ := Im.unhd hx
  obtain ⟨ca, ta, ws, hca, hct, htt, hks⟩ := cl_at hI c0 c1
  obtain ⟨ka, hka, hkt⟩ := kd_at hks h6
  obtain ⟨klo, hi2, hhi, khi⟩ := hkd
  have ehi : hiOf (kdOf (clOf F c).kinds h.kind) = hi2 := by unfold hiOf; rw [hhi]; rfl
  unfold clockM at q
  rw [ehi] at q
  rw [hhi] at hkt
  refine ⟨_, rfl, _, _, rfl, hra, rfl, _, _, rfl, _, _, rfl, _, _, rfl, rfl, ?_⟩
  refine ⟨_, rfl, _, rfl, (by show 2 ≤ sizeLine; decide), fun a1 n1 => ?_⟩
  generalize e1 : upd H a1 _ = H1
  obtain ⟨s1, h1⟩ := fr e1 n1
  clear e1
  refine ⟨a1, dev, n, rfl, SqT.of h1, fun hv2 H2 s2 ih2 => ?_⟩
  refine ⟨_, rfl, _, rfl, _, rfl, (by show 3 ≤ sizeLine; decide), fun a3 n3 => ?_⟩
  generalize e3 : upd H2 a3 _ = H3
  obtain ⟨s3, h3⟩ := fr e3 n3
  clear e3
  have it3 : Im K H3 (ptP ⟨dev, n, c⟩) (.ref a3) := ptI (SqT.of h3)
  have ih3 := Im.mono (.of s3) _ ih2
  have s03 := s1.trans (s2.trans s3)
  have k03 := TupK.of s03
  refine ⟨fun σ H' => ∃ z : V, σ = [some (.ref p), some (.ref ra), some (.int c), some (.int (i : Int)), some (.ref ha), some hv2, some (.ref a3), none, none, none, some (.int dev), some (.int n), some (.ref ea), some z, some (.int (kdOf (clOf F c).kinds h.kind).low), some (.int hi2)] ∧ H3 = H', ?_, ?_⟩
  · refine ⟨_, rfl, p, CF, dx, _, _, rfl, s03 _ _ hp, TF.cl, TF.n_clocks, lk_Frame_clocks, _, rfl, _, _, _, _, rfl, rfl, SqL.of (s03 _ _ hc), hca, _, _, _, _, rfl, rfl, k03.sq hct, at_of (j := 3) rfl rfl, _, rfl, _, _, _, _, rfl, rfl, k03.sq hht, at_of (j := 2) rfl rfl, _, _, _, _, rfl, rfl, k03.sq htt, hka, _, _, rfl, k03.sq hkt, rfl, _, _, rfl, _, _, rfl, _, _, rfl, rfl, ?_⟩
    exact ⟨_, rfl, rfl⟩
  rintro σ H' ⟨z, rfl, rfl⟩
  refine ⟨_, rfl, _, rfl, _, rfl, _, rfl, p, F, own, c, e, h, _, _, rfl, hF0.keep s03, c0, c1, Im.mono k03 _ hv0, h9, Im.mono k03 _ hx0, fun u hu => ?_⟩
  generalize sinceM (clOf F c).goes e h = o at hu q
  cases o with
  | none =>
    dsimp only at q
    have eu := Im.unn hu
    refine ⟨_, rfl, rfl, _, rfl, ite2 (fun _ => ?_) (fun g => absurd (decide_eq_true eu) g)⟩
    exact ⟨_, rfl, _, rfl, _, rfl, _, rfl, _, _, ⟨dev, n, c⟩, ⟨dev, n, -1⟩, 0, _, c, rfl, it3, ih3, fun a4 H4 s4 n4 i4 => q a4 H4 (s03.trans s4) (s03.free n4) i4⟩
  | some t =>
    dsimp only at q
    have hu : Im K H3 (ptP t) u := hu
    obtain ⟨ua, eu, _⟩ := Im.unpt hu
    refine ⟨_, rfl, rfl, _, rfl, ite2 (fun g => absurd (of_decide_eq_true g) (by rw [eu]; intro z; cases z)) (fun _ => ?_)⟩
    refine ⟨fun σ H' => σ = [some (.ref p), some (.ref ra), some (.int c), some (.int (i : Int)), some (.ref ha), some hv2, some (.ref a3), some u, some (.int (e.shown.getD i 0 - h.shown)), none, some (.int dev), some (.int n), some (.ref ea), some z, some (.int (kdOf (clOf F c).kinds h.kind).low), some (.int hi2)] ∧ H3 = H', ?_, ?_⟩
    · refine ⟨_, rfl, _, _, _, _, rfl, rfl, k03.sq het, at_of (j := 1) rfl rfl, _, rfl, _, _, _, _, rfl, rfl, k03.sq hst, int_at hi, _, rfl, _, _, _, _, rfl, rfl, k03.sq hht, at_of (j := 1) rfl rfl, _, _, rfl, rfl, rfl, rfl⟩
    rintro σ H' ⟨rfl, rfl⟩
    refine ⟨_, rfl, rfl, _, rfl, ite2 (fun g => ?_) (fun g => ?_)⟩
    · have ge : e.shown.getD i 0 - h.shown = 0 := vint_eq g
      simp only [if_pos ge] at q
      exact ⟨_, rfl, _, rfl, _, rfl, _, rfl, _, _, t, ⟨dev, n, -1⟩, 0, _, c, rfl, hu, ih3, fun a4 H4 s4 n4 i4 => q a4 H4 (s03.trans s4) (s03.free n4) i4⟩
    · have ge : e.shown.getD i 0 - h.shown ≠ 0 := vint_ne g
      simp only [if_neg ge] at q
      refine ⟨_, rfl, _, rfl, _, rfl, _, rfl, _, _, rfl, rfl, mul64 klo, _, rfl, _, rfl, _, _, rfl, rfl, mul64 khi, _, rfl, _, _, t, ⟨dev, n, c⟩, _, _, c, rfl, hu, it3, fun a4 H4 s4 n4 i4 => ?_⟩
      have hu4 := Im.mono (.of s4) _ hu
      have it4 := Im.mono (.of s4) _ it3
      obtain ⟨w4, hw4⟩ := i4.lst
      refine ⟨_, rfl, .inl ⟨rfl, _, SqL.of hw4⟩, _, rfl, _, rfl, _, rfl, _, _, t, ⟨dev, n, c⟩, 0, c, rfl, hu4, it4, fun v5 H5 s5 i5 => ?_⟩
      obtain ⟨w5, hw5, hl5, i6⟩ := (i4.keep s5).snoc i5
      refine ⟨_, _, _, rfl, rfl, hw5, by rw [hl5]; exact sizes' (by show 2 ≤ 100000; decide), ?_⟩
      have s35 := s4.trans s5
      have n4' := s03.free n4
      have k56 : TupK H5 (upd H5 a4 (.lst (w5 ++ [v5]))) := .set hw5
      generalize e6 : upd H5 a4 _ = H6 at *
      obtain ⟨b6, h6⟩ := stt e6
      clear e6
      obtain ⟨w6, hw6, _⟩ := id i6
      refine ⟨_, rfl, .inl ⟨rfl, _, SqL.of hw6⟩, _, rfl, _, rfl, _, _, rfl, rfl, (by show 2 ≤ sizeLine; decide), fun a7 n7 => ?_⟩
      generalize e7 : upd H6 a7 _ = H7
      obtain ⟨s7, h7⟩ := fr e7 n7
      clear e7
      refine ⟨a7, dev, n - 1, rfl, SqT.of h7, fun v8 H8 s8 i8 => ?_⟩
      have k38 := (TupK.of s35).trans (k56.trans ((TupK.of s7).trans (TupK.of s8)))
      refine ⟨_, rfl, _, rfl, _, rfl, _, _, rfl, rfl, _, _, rfl, rfl, mul64 klo, _, rfl, _, _, ⟨dev, n - 1, -1⟩, ⟨dev, n, c⟩, _, c, rfl, i8, Im.mono k38 _ it3, fun v9 H9 s9 i9 => ?_⟩
      have s69 := s7.trans (s8.trans s9)
      obtain ⟨w9, hw9, hl9, i10⟩ := (i6.keep s69).snoc i9
      refine ⟨_, _, _, rfl, rfl, hw9, by rw [hl9]; exact sizes' (by show 3 ≤ 100000; decide), ?_⟩
      have k9 : TupK H9 (upd H9 a4 (.lst (w9 ++ [v9]))) := .set hw9
      generalize e10 : upd H9 a4 _ = H10 at *
      obtain ⟨b10, h10⟩ := stt e10
      clear e10
      obtain ⟨w10, hw10, _⟩ := id i10
      have k310 := k38.trans ((TupK.of s9).trans k9)
      refine ⟨_, rfl, .inl ⟨rfl, _, SqL.of hw10⟩, _, rfl, _, rfl, _, rfl, _, rfl, _, _, ⟨dev, n, c⟩, ⟨dev, n, -1⟩, 0, _, c, rfl, Im.mono k310 _ it3, Im.mono k310 _ ih3, fun a11 H11 s11 n11 i11 => ?_⟩
      obtain ⟨w11, u11, hw11, hu11, hl11, hm11, i12⟩ := (i10.keep s11).app i11
      refine ⟨_, _, _, _, rfl, rfl, hw11, hu11, by rw [hl11, hm11]; exact sizes (by show 4 + 2 ≤ 100000; decide), ?_⟩
      refine ⟨_, rfl, q a4 _ (fun b o hb => ?_) n4' ?_⟩
      · have nb : b ≠ a4 := ne_of_none hb n4'
        rw [upd_ne nb]
        exact s11 _ _ (b10 _ _ nb (s69 _ _ (b6 _ _ nb (s35 _ _ (s03 _ _ hb)))))
      · simp only [List.map_append]
        exact i12
def sp_kind_given (K : PySem.W.Frag) : Sp := fun vs H Q _ => ∃ (d : Dd) (c : Int) (i : Nat) (v : V), vs = [v, .int c, .int (i : Int)] ∧ Im K H (ddP d) v ∧ d.place < 9 ∧ (d.place ≠ 8 → d.nums.length = arity d.place) ∧ (d.place = 8 → i < d.nums.length) ∧ Q (hiV (givenM d c i)) H
theorem ok_kind_given {f : Addr} {fd : FuncData} (D : Df K mg "kind_given" s_kind_given ["deed", "clock", "place"] f fd) (T : Txt K mg) : FnOk P w K mg base CX0 1 f fd ["deed", "clock", "place"] (sp_kind_given K) := by
  refine D.F.ok sc_kind_given (fun vs H Q E h => ?_) (fun cdv A outer s H vs Q E hr h => ?_)
  · obtain ⟨d, c, i, v, rfl, _⟩ := h
    rfl
  obtain ⟨d, c, i, v, rfl, hd, h9, har, h8, q⟩ := h
  refine ⟨_, (pss_cons (ps_if (pt_cmpR op_eq (pe_ix ix_tup (pv 0) pe_int (fun _ _ => rfl)) pe_str (nomark _))
      (pss_one (ps_ret (pe_ix ix_tup (pe_ix ix_tup (pv 0) pe_int (fun _ _ => rfl)) (pv 2) (fun _ _ => rfl))))
      pss_nil)
    (pss_cons (ps_if (PW.pt (pw_and (pt_cmpR op_eq (pe_ix ix_tup (pv 0) pe_int (fun _ _ => rfl)) pe_str (nomark _)) (pw_and1 (pt_cmpR op_eq (pe_ix ix_tup (pv 0) pe_int (fun _ _ => rfl)) (pv 1) (nomark _)))))
      (pss_one (ps_ret (pe_ix ix_tup (pv 0) pe_int (fun _ _ => rfl))))
      pss_nil)
    (pss_one (ps_ret pe_non)))), ?_⟩
  obtain ⟨da, z, rest, rfl, hz, hdt, hrest⟩ := Im.undd h9 hd
  unfold givenM at q
  refine ⟨_, rfl, _, _, _, _, rfl, rfl, hdt, at_of (j := 0) rfl rfl, rfl, _, rfl, ?_⟩
  rw [dn_is hz (show deedNames[8]? = some (Str.ofString "anew") from rfl)]
  refine ite2 (fun g => ?_) (fun g => ?_)
  · have g8 := of_decide_eq_true g
    rw [if_pos g8] at q
    rcases hrest with ⟨_, b, rfl, hb⟩ | ⟨n8, _⟩
    · have hi := h8 g8
      rw [List.getElem?_eq_getElem hi] at q
      refine ⟨_, rfl, _, _, _, _, rfl, rfl, hdt, at_of (j := 1) rfl rfl, _, rfl, _, _, _, _, rfl, rfl, hb, at_of (j := i) (v := V.int d.nums[i]) rfl (by rw [List.getElem?_map, List.getElem?_eq_getElem hi]; rfl), ?_⟩
      exact q
    · exact absurd g8 n8
  have n8 : d.place ≠ 8 := fun e => g (decide_eq_true e)
  rw [if_neg n8] at q
  rcases hrest with ⟨e8, _⟩ | ⟨_, rfl⟩
  · exact absurd e8 n8
  refine ⟨_, rfl, _, _, _, _, rfl, rfl, hdt, at_of (j := 0) rfl rfl, rfl, _, rfl, ?_⟩
  rw [dn_is hz (show deedNames[1]? = some (Str.ofString "kind") from rfl)]
  refine ite2 (fun g1 => ?_) (fun g1 => iteF ?_)
  · have e1 := of_decide_eq_true g1
    have hl := har n8
    rw [e1] at hl
    obtain ⟨x, y, hxy⟩ := two_of hl
    rw [hxy] at hdt q
    refine ⟨_, rfl, _, _, _, _, rfl, rfl, hdt, at_of (j := 1) rfl rfl, _, rfl, rfl, _, rfl, ite2 (fun g2 => ?_) (fun g2 => ?_)⟩
    · have e2 := vint_eq g2
      subst e2
      rw [if_pos ⟨e1, rfl⟩] at q
      refine ⟨_, rfl, _, _, _, _, rfl, rfl, hdt, at_of (j := 2) rfl rfl, ?_⟩
      exact q
    · have e2 := vint_ne g2
      rw [if_neg (fun h => e2 (Option.some.inj h.2))] at q
      exact q
  · have e1 : d.place ≠ 1 := fun e => g1 (decide_eq_true e)
    rw [if_neg (fun h => e1 h.1)] at q
    exact q
def sp_hand_after (K : PySem.W.Frag) (CF : Addr) : Sp := fun vs H Q _ => ∃ (p ra : Addr) (F : Fm) (own : List Addr) (dev n c : Int) (e : Ev) (i : Nat) (h : HdM) (v x : V), vs = [.ref p, .ref ra, .int c, .int (i : Int), x] ∧ FrI K CF H p F own ∧ SqT K H ra [.int dev, .int n, v] ∧ 0 ≤ c ∧ c < F.clocks.length ∧ Im K H (evP e) v ∧ e.deed.place < 9 ∧ (e.deed.place ≠ 8 → e.deed.nums.length = arity e.deed.place) ∧ (e.deed.place = 8 → i < e.deed.nums.length) ∧ i < e.shown.length ∧ i < e.after.length ∧ Im K H (hdP h) x ∧
  ∀ (y : V) (H' : Hp), Same H H' → Im K H' (hdP (handM (clOf F c) c dev n e i h)) y → Q y H'
set_option maxHeartbeats 1000000 in
theorem ok_hand_after {f : Addr} {fd : FuncData} {CF : Addr} (TF : Ck_Frame K mg CF) (D : Df K mg "hand_after" s_hand_after ["frame", "record", "clock", "place", "hand"] f fd) (T : Txt K mg) {f_event_point : Addr} {fd_event_point : FuncData} (D_event_point : Df K mg "event_point" s_event_point ["event"] f_event_point fd_event_point) (G_event_point : FnOk P w K mg base CX0 1 f_event_point fd_event_point ["event"] (sp_event_point K)) {f_running_since : Addr} {fd_running_since : FuncData} (D_running_since : Df K mg "running_since" s_running_since ["frame", "clock", "event", "hand"] f_running_since fd_running_since) (G_running_since : FnOk P w K mg base CX0 1 f_running_since fd_running_since ["frame", "clock", "event", "hand"] (sp_running_since K CF)) {f_kind_given : Addr} {fd_kind_given : FuncData} (D_kind_given : Df K mg "kind_given" s_kind_given ["deed", "clock", "place"] f_kind_given fd_kind_given) (G_kind_given : FnOk P w K mg base CX0 1 f_kind_given fd_kind_given ["deed", "clock", "place"] (sp_kind_given K)) : FnOk P w K mg base CX0 2 f fd ["frame", "record", "clock", "place", "hand"] (sp_hand_after K CF) := by
  refine D.F.ok sc_hand_after (fun vs H Q E h => ?_) (fun cdv A outer s H vs Q E hr h => ?_)
  · obtain ⟨p, ra, F, own, dev, n, c, e, i, h, v, x, rfl, _⟩ := h
    rfl
  obtain ⟨p, ra, F, own, dev, n, c, e, i, h, v, x, rfl, hF, hra, c0, c1, hv, h9, har, h8, hi, hia, hx, q⟩ := h
  refine ⟨_, (pss_cons (ps_asg (pv 1) (pg_tup rfl (pgs_cons (pg_name (i := 9) sc_hand_after.nd rfl (Or.inl rfl)) (pgs_cons (pg_name (i := 10) sc_hand_after.nd rfl (Or.inl rfl)) (pgs_cons (pg_name (i := 11) sc_hand_after.nd rfl (Or.inl rfl)) pgs_nil)))))
    (C8.pss_cut (ps_set (i := 5) sc_hand_after.nd rfl (Or.inl rfl) (pe_ix ix_tup (pe_ix ix_tup (pv 11) pe_int (fun _ _ => rfl)) (pv 3) (fun _ _ => rfl)))
    (pss_cons (ps_set (i := 6) sc_hand_after.nd rfl (Or.inl rfl) (pe_ix ix_tup (pe_ix ix_tup (pv 11) pe_int (fun _ _ => rfl)) (pv 3) (fun _ _ => rfl)))
    (C8.pss_cut (ps_set (i := 7) sc_hand_after.nd rfl (Or.inl rfl) (pe_call G_kind_given (hr.mono (by decide)) rfl D_kind_given.m D_kind_given.F.kp D_kind_given.b .nil pass0 (pa_cons (pe_ix ix_tup (pv 11) pe_int (fun _ _ => rfl)) (pa_cons (pv 2) (pa_cons (pv 3) pa_nil)))))
    (pss_cons (ps_if (pt_cmpR op_notN (pv 7) pe_non (nomark _))
      (pss_one (ps_ret (pe_tup (pa_cons (pe_call G_event_point (hr.mono (by decide)) rfl D_event_point.m D_event_point.F.kp D_event_point.b .nil pass0 (pa_cons (pe_tup (pa_cons (pv 9) (pa_cons (pv 10) pa_nil))) pa_nil)) (pa_cons (pv 6) (pa_cons (pv 7) pa_nil))))))
      pss_nil)
    (pss_cons (ps_if (pt_cmpR op_ne (pv 6) (pv 5) (nomark _))
      (pss_one (ps_ret (pe_tup (pa_cons (pe_call G_event_point (hr.mono (by decide)) rfl D_event_point.m D_event_point.F.kp D_event_point.b .nil pass0 (pa_cons (pe_tup (pa_cons (pv 9) (pa_cons (pv 10) pa_nil))) pa_nil)) (pa_cons (pv 6) (pa_cons (pe_ix ix_tup (pv 4) pe_int (fun _ _ => rfl)) pa_nil))))))
      pss_nil)
    (C8.pss_cut (ps_set (i := 8) sc_hand_after.nd rfl (Or.inl rfl) (pe_call G_running_since (hr.mono (by decide)) rfl D_running_since.m D_running_since.F.kp D_running_since.b .nil pass0 (pa_cons (pv 0) (pa_cons (pv 2) (pa_cons (pv 11) (pa_cons (pv 4) pa_nil))))))
    (pss_cons (ps_if (PW.pt (pw_and (pt_cmpR op_notN (pv 8) pe_non (nomark _)) (pw_and1 (pt_cmpR op_eq (pv 5) (pe_ix ix_tup (pv 4) pe_int (fun _ _ => rfl)) (nomark _)))))
      (pss_one (ps_ret (pv 4)))
      pss_nil)
    (pss_one (ps_ret (pe_tup (pa_cons (pe_tup (pa_cons (pv 9) (pa_cons (pv 10) (pa_cons (pv 2) pa_nil)))) (pa_cons (pv 5) (pa_cons (pe_ix ix_tup (pv 4) pe_int (fun _ _ => rfl)) pa_nil)))))))))))))), ?_⟩
  have hv0 := hv
  have hx0 := hx
  obtain ⟨ea, e1, e2, ed, e3, rfl, het, i1, i2, i3, _⟩ := Im.unev hv
  obtain ⟨sa, rfl, hst⟩ := Im.unints i1
  obtain ⟨aa, rfl, hat⟩ := Im.unints i2
  obtain ⟨ha, hx1, rfl, hht, hpt⟩ := Im.unhd hx
  unfold handM at q
  refine ⟨_, rfl, _, _, rfl, hra, rfl, _, _, rfl, _, _, rfl, _, _, rfl, rfl, ?_⟩
  refine ⟨fun σ H' => σ = [some (.ref p), some (.ref ra), some (.int c), some (.int (i : Int)), some (.ref ha), some (.int (e.shown.getD i 0)), none, none, none, some (.int dev), some (.int n), some (.ref ea)] ∧ H = H', ?_, ?_⟩
  · exact ⟨_, rfl, _, _, _, _, rfl, rfl, het, at_of (j := 1) rfl rfl, _, rfl, _, _, _, _, rfl, rfl, hst, int_at hi, rfl, rfl⟩
  rintro σ H' ⟨rfl, rfl⟩
  refine ⟨_, rfl, _, _, _, _, rfl, rfl, het, at_of (j := 2) rfl rfl, _, rfl, _, _, _, _, rfl, rfl, hat, int_at hia, ?_⟩
  refine ⟨fun σ H' => σ = [some (.ref p), some (.ref ra), some (.int c), some (.int (i : Int)), some (.ref ha), some (.int (e.shown.getD i 0)), some (.int (e.after.getD i 0)), some (hiV (givenM e.deed c i)), none, some (.int dev), some (.int n), some (.ref ea)] ∧ H = H', ?_, ?_⟩
  · exact ⟨_, rfl, _, _, _, _, rfl, rfl, het, at_of (j := 3) rfl rfl, _, rfl, _, rfl, e.deed, c, i, ed, rfl, i3, h9, har, h8, rfl, rfl⟩
  rintro σ H' ⟨rfl, rfl⟩
  generalize givenM e.deed c i = o at *
  cases o with
  | some k =>
    dsimp only at q
    refine ⟨_, rfl, rfl, _, rfl, ite2 (fun g => ?_) (fun g => absurd (by rw [decide_eq_false (show ¬ (hiV (some k)) = V.non from by intro z; cases z)]; rfl) g)⟩
    refine ⟨_, rfl, _, rfl, (by show 2 ≤ sizeLine; decide), fun a1 n1 => ?_⟩
    generalize e1 : upd H a1 _ = H1
    obtain ⟨s1, h1⟩ := fr e1 n1
    clear e1
    refine ⟨a1, dev, n, rfl, SqT.of h1, fun v2 H2 s2 i2 => ?_⟩
    refine ⟨_, rfl, _, rfl, (by show 3 ≤ sizeLine; decide), fun a3 n3 => ?_⟩
    generalize e3 : upd H2 a3 _ = H3
    obtain ⟨s3, h3⟩ := fr e3 n3
    clear e3
    exact q _ H3 (s1.trans (s2.trans s3)) (hdI (h := ⟨some ⟨dev, n, -1⟩, e.after.getD i 0, k⟩) (SqT.of h3) (Im.mono (.of s3) _ i2))
  | none =>
    dsimp only at q
    refine ⟨_, rfl, rfl, _, rfl, ite2 (fun g => absurd g (by rw [decide_eq_true (show (hiV none) = V.non from rfl)]; decide)) (fun g => ?_)⟩
    refine ⟨_, rfl, _, rfl, rfl, _, rfl, ite2 (fun g => ?_) (fun g => ?_)⟩
    · have ne : e.after.getD i 0 ≠ e.shown.getD i 0 := vne_int g
      rw [if_pos ne] at q
      refine ⟨_, rfl, _, rfl, (by show 2 ≤ sizeLine; decide), fun a1 n1 => ?_⟩
      generalize e1 : upd H a1 _ = H1
      obtain ⟨s1, h1⟩ := fr e1 n1
      clear e1
      refine ⟨a1, dev, n, rfl, SqT.of h1, fun v2 H2 s2 i2 => ?_⟩
      have k2 := TupK.of (s1.trans s2)
      refine ⟨_, rfl, _, rfl, _, _, _, _, rfl, rfl, k2.sq hht, at_of (j := 2) rfl rfl, (by show 3 ≤ sizeLine; decide), fun a3 n3 => ?_⟩
      generalize e3 : upd H2 a3 _ = H3
      obtain ⟨s3, h3⟩ := fr e3 n3
      clear e3
      exact q _ H3 (s1.trans (s2.trans s3)) (hdI (h := ⟨some ⟨dev, n, -1⟩, e.after.getD i 0, h.kind⟩) (SqT.of h3) (Im.mono (.of s3) _ i2))
    · have eq : e.after.getD i 0 = e.shown.getD i 0 := by
        by_cases h : e.after.getD i 0 = e.shown.getD i 0
        · exact h
        · exact absurd (by rw [decide_eq_false (show ¬ V.int (e.after.getD i 0) = V.int (e.shown.getD i 0) from fun z => h (by injection z))]; rfl) g
      rw [if_neg (fun z => z eq)] at q
      refine ⟨fun σ H' => ∃ u, σ = [some (.ref p), some (.ref ra), some (.int c), some (.int (i : Int)), some (.ref ha), some (.int (e.shown.getD i 0)), some (.int (e.after.getD i 0)), some (hiV none), some u, some (.int dev), some (.int n), some (.ref ea)] ∧ Im K H (opP (sinceM (clOf F c).goes e h)) u ∧ H = H', ?_, ?_⟩
      · exact ⟨_, rfl, _, rfl, _, rfl, _, rfl, p, F, own, c, e, h, _, _, rfl, hF, c0, c1, hv0, h9, hx0, fun u hu => ⟨u, rfl, hu, rfl⟩⟩
      rintro σ H' ⟨u, rfl, hu, rfl⟩
      generalize sinceM (clOf F c).goes e h = o at *
      have last : ∀ (y : HdM), y = ⟨some ⟨dev, n, c⟩, e.shown.getD i 0, h.kind⟩ → (∀ (w : V) (H' : Hp), Same H H' → Im K H' (hdP y) w → Q w H') → ∀ (a1 : Addr) (H1 : Hp), Same H H1 → H1 a1 = some (.tup [V.int dev, V.int n, V.int c]) → ∀ a3, H1 a3 = none → Q (.ref a3) (upd H1 a3 (.tup [V.ref a1, V.int (e.shown.getD i 0), V.int h.kind])) := by
        intro y ey q a1 H1 s1 h1 a3 n3
        subst ey
        generalize e3 : upd H1 a3 _ = H3
        obtain ⟨s3, h3⟩ := fr e3 n3
        clear e3
        exact q _ H3 (s1.trans s3) (hdI (h := ⟨some ⟨dev, n, c⟩, e.shown.getD i 0, h.kind⟩) (SqT.of h3) (ptI (SqT.of (s3 _ _ h1))))
      cases o with
      | none =>
        have eu := Im.unn hu
        rw [if_neg (fun z => absurd z.1 (by decide))] at q
        refine ⟨_, rfl, rfl, _, rfl, ite2 (fun g => absurd g (by rw [decide_eq_true eu]; decide)) (fun _ => iteF ?_)⟩
        refine ⟨_, rfl, _, rfl, _, rfl, (by show 3 ≤ sizeLine; decide), fun a1 n1 => ?_⟩
        generalize e1 : upd H a1 _ = H1
        obtain ⟨s1, h1⟩ := fr e1 n1
        clear e1
        exact ⟨_, rfl, _, rfl, _, _, _, _, rfl, rfl, sTup s1 hht, at_of (j := 2) rfl rfl, (by show 3 ≤ sizeLine; decide), fun a3 n3 => last _ rfl q a1 H1 s1 h1 a3 n3⟩
      | some t =>
        obtain ⟨ua, eu, _⟩ := Im.unpt (show Im K H (ptP t) u from hu)
        refine ⟨_, rfl, rfl, _, rfl, ite2 (fun _ => ?_) (fun g => absurd (by rw [decide_eq_false (show ¬ u = V.non from by rw [eu]; intro z; cases z)]; rfl) g)⟩
        refine ⟨_, rfl, _, rfl, _, _, _, _, rfl, rfl, hht, at_of (j := 1) rfl rfl, rfl, _, rfl, ite2 (fun g => ?_) (fun g => ?_)⟩
        · have ge := vint_eq g
          rw [if_pos ⟨rfl, ge⟩] at q
          exact ⟨_, rfl, q _ H (fun _ _ z => z) hx0⟩
        · have ge := vint_ne g
          rw [if_neg (fun z => ge z.2)] at q
          refine ⟨_, rfl, _, rfl, _, rfl, (by show 3 ≤ sizeLine; decide), fun a1 n1 => ?_⟩
          generalize e1 : upd H a1 _ = H1
          obtain ⟨s1, h1⟩ := fr e1 n1
          clear e1
          exact ⟨_, rfl, _, rfl, _, _, _, _, rfl, rfl, sTup s1 hht, at_of (j := 2) rfl rfl, (by show 3 ≤ sizeLine; decide), fun a3 n3 => last _ rfl q a1 H1 s1 h1 a3 n3⟩
def sp_hands_after (K : PySem.W.Frag) (CF : Addr) : Sp := fun vs H Q _ => ∃ (p ra hl : Addr) (F : Fm) (own : List Addr) (dev n : Int) (e : Ev) (hs : List HdM) (k : Option Int) (v : V), vs = [.ref p, .ref ra, .ref hl] ∧ FrI K CF H p F own ∧ F.clocks.length ≤ 100 ∧ SqT K H ra [.int dev, .int n, v] ∧ Im K H (evP e) v ∧ LsI K H hl (hs.map hdP) ∧ EvFit F dev e hs k ∧
  ∀ (h : Addr) (H' : Hp), Same H H' → H h = none → LsI K H' h ((evH F dev n e hs).map hdP) → Q (.ref h) H'
theorem ok_hands_after {f : Addr} {fd : FuncData} {CF : Addr} (TF : Ck_Frame K mg CF) (D : Df K mg "hands_after" s_hands_after ["frame", "record", "hands"] f fd) (T : Txt K mg) {f_hand_after : Addr} {fd_hand_after : FuncData} (D_hand_after : Df K mg "hand_after" s_hand_after ["frame", "record", "clock", "place", "hand"] f_hand_after fd_hand_after) (G_hand_after : FnOk P w K mg base CX0 2 f_hand_after fd_hand_after ["frame", "record", "clock", "place", "hand"] (sp_hand_after K CF)) {f_Frame_clocks_of : Addr} {fd_Frame_clocks_of : FuncData} (M_Frame_clocks_of : Mt K CF "clocks_of" "Frame.clocks_of" s_Frame_clocks_of ["self", "device"] f_Frame_clocks_of fd_Frame_clocks_of) (G_Frame_clocks_of : FnOk P w K mg base CX0 1 f_Frame_clocks_of fd_Frame_clocks_of ["self", "device"] (sp_Frame_clocks_of K CF)) : FnOk P w K mg base CX0 3 f fd ["frame", "record", "hands"] (sp_hands_after K CF) := by
  refine D.F.ok sc_hands_after (fun vs H Q E h => ?_) (fun cdv A outer s H vs Q E hr h => ?_)
  · obtain ⟨p, ra, hl, F, own, dev, n, e, hs, k, v, rfl, _⟩ := h
    rfl
  obtain ⟨p, ra, hl, F, own, dev, n, e, hs, k, v, rfl, hF, h100, hra, hv, hhl, hfit, q⟩ := h
  refine ⟨_, (pss_cons (ps_set (i := 3) sc_hands_after.nd rfl (Or.inl rfl) (pe_meth (pv 0) TF.cl M_Frame_clocks_of.m G_Frame_clocks_of (hr.mono (by decide)) M_Frame_clocks_of.b .nil pass0 (pa_cons (pe_ix ix_tup (pv 1) pe_int (fun _ _ => rfl)) pa_nil)))
    (pss_one (ps_ret (pe_lc (own := [("place", 4), ("clock", 5)]) (g := (gTup K 2 (gCons (gName 4) (gCons (gName 5) gNil)))) (tt := tYes) rfl sc_hands_after.nd (pi_enum rfl T.enumerate (pa_cons (pv 3) pa_nil)) (blkOk_by (own := [("place", 4), ("clock", 5)]) (N := nm_hands_after) (sc := defScope s_hands_after) (by decide +kernel)) (fun _ _ _ _ _ => (pg_tup rfl (pgs_cons (pg_name (i := 4) sc_hands_after.nd rfl (Or.inl rfl)) (pgs_cons (pg_name (i := 5) sc_hands_after.nd rfl (Or.inl rfl)) pgs_nil)))) (fun _ _ _ _ _ => pts_nil) (fun _ _ _ _ _ => (pe_call G_hand_after (hr.mono (by decide)) rfl D_hand_after.m D_hand_after.F.kp D_hand_after.b .nil pass0 (pa_cons (pv 0) (pa_cons (pv 1) (pa_cons (pv 5) (pa_cons (pv 4) (pa_cons (pe_ix (r := rIxL K) ix_list (pv 2) (pv 4) (fun _ _ => rfl)) pa_nil))))))))))), ?_⟩
  have hF0 := hF
  have hv0 := hv
  obtain ⟨dx, d_, c_, l_, s_, _, hp, _⟩ := hF
  refine ⟨_, rfl, p, dx, _, rfl, hp, no_Frame, _, rfl, _, _, _, _, rfl, rfl, hra, at_of (j := 0) rfl rfl, p, F, own, dev, rfl, hF0, h100, fun l8 H8 s8 n8 h8 => ?_⟩
  have ncl : (cks F dev).length ≤ 100 := Nat.le_trans (ckN_len _ _ _) h100
  refine ⟨_, rfl, l8, _, rfl, SqL.of h8, fun D hD => lc_it (walk_enum (K := K) (a := l8) (xs := (cks F dev).map V.int)) (fun i H' => Same H8 H' ∧ LsI K H' D (((List.range i).map (cH F dev n e hs)).map hdP)) ⟨same_upd hD, _, upd_same, ImL.nil_⟩ (fun i H' _ p => SqL.of (p.1 _ _ h8)) ?_ ?_⟩
  · rintro i x H9 H10 hi ⟨sm, hL⟩ ⟨T, x1, x2, rfl, nT, rfl, hx1, hx2⟩
    cases hx1
    rw [List.length_map] at hi
    have hx2 : ((cks F dev).map V.int)[i]? = some x2 := hx2
    rw [List.getElem?_map, getD_ix (d := 0) hi] at hx2
    cases hx2
    obtain ⟨sT, hT⟩ := fr (rfl : upd H9 T (.tup [.int (i : Nat), .int ((cks F dev).getD i 0)]) = _) nT
    generalize upd H9 T (.tup [.int (i : Nat), .int ((cks F dev).getD i 0)]) = H10 at *
    have s010 : Same H H10 := s8.trans (sm.trans sT)
    have k010 := TupK.of s010
    obtain ⟨c0, c1⟩ := cks_in (F := F) (dev := dev) hi
    obtain ⟨ws, hws, hwi⟩ := id hhl
    have hsl : (hs.map hdP).length = (cks F dev).length := by rw [List.length_map]; exact hfit.hl
    obtain ⟨dd, vv, hd1, hd2, hd3⟩ := list_at (j := (i : Int)) hwi (by omega) (by rw [hsl]; omega)
    obtain ⟨hm, hhm, rfl⟩ := map_get hd1
    have ehm : hm = hs.getD i dfH := by
      have := getD_ix (d := dfH) (xs := hs) (i := i) (by rw [hfit.hl]; exact hi)
      rw [show ((i : Int)).toNat = i from by omega] at hhm
      rw [hhm] at this
      exact Option.some.inj this
    subst ehm
    refine ⟨T, _, rfl, SqT.of hT, rfl, _, _, rfl, _, _, rfl, rfl, rfl, _, rfl, _, rfl, _, rfl, _, rfl, _, rfl, _, rfl, _, _, _, _, rfl, rfl, SqL.of (s010 _ _ hws), hd2, p, ra, F, own, dev, n, (cks F dev).getD i 0, e, i, hs.getD i dfH, _, _, rfl, hF0.keep s010, k010.sq hra, c0, c1, Im.mono k010 _ hv0, hfit.pl, hfit.ar, fun h8 => by rw [hfit.an h8]; exact hi, by rw [hfit.sh]; exact hi, by rw [hfit.af]; exact hi, Im.mono k010 _ hd3, fun y H12 s12 i12 => ?_⟩
    obtain ⟨x7, g7, m7, i13⟩ := ((hL.keep sT).keep s12).snoc i12
    refine ⟨x7, g7, by rw [m7, List.length_map, List.length_map, List.length_range]; exact sizes' (by omega), fun b u h => ?_, ?_⟩
    · rw [upd_ne (ne_of_none h hD)]
      exact s12 _ _ (sT _ _ (sm _ _ h))
    · rw [rangeH, List.map_append]
      exact i13
  · rintro H9 ⟨sm, hL⟩
    rw [List.length_map] at hL
    exact q D H9 (s8.trans sm) (s8.free hD) hL
def sp_Frame_source_part (K : PySem.W.Frag) (CF : Addr) : Sp := fun vs H Q _ => ∃ (p : Addr) (F : Fm) (own : List Addr) (i : Int), vs = [.ref p, .int i] ∧ FrI K CF H p F own ∧ Q (.int ((F.clocks.length : Int) + F.links.length + i)) H
theorem ok_Frame_source_part {f : Addr} {fd : FuncData} {CF : Addr} (TF : Ck_Frame K mg CF) (D : Mt K CF "source_part" "Frame.source_part" s_Frame_source_part ["self", "source"] f fd) (T : Txt K mg) : FnOk P w K mg base CX0 1 f fd ["self", "source"] (sp_Frame_source_part K CF) := by
  refine D.F.ok sc_Frame_source_part (fun vs H Q E h => ?_) (fun cdv A outer s H vs Q E hr h => ?_)
  · obtain ⟨p, F, own, i, rfl, _⟩ := h
    rfl
  obtain ⟨p, F, own, i, rfl, ⟨dx, d, c, l, s, _, hp, _, ⟨vs, hc, hI⟩, ⟨ws, hl, hJ⟩, _⟩, q⟩ := h
  refine ⟨_, (pss_one (ps_ret (pe_op op_add (pe_op op_add (pe_callB call_len_seq rfl T.len PySem.boot_len (pa_cons (pe_fld (pv 0) rfl) pa_nil)) (pe_callB call_len_seq rfl T.len PySem.boot_len (pa_cons (pe_fld (pv 0) rfl) pa_nil))) (pv 1)))), ?_⟩
  refine ⟨_, rfl, p, CF, dx, _, _, rfl, hp, TF.cl, TF.n_clocks, lk_Frame_clocks, _, _, rfl, .inl (SqL.of hc), _, rfl, p, CF, dx, _, _, rfl, hp, TF.cl, TF.n_links, lk_Frame_links, _, _, rfl, .inl (SqL.of hl), _, _, rfl, rfl, _, rfl, _, _, rfl, rfl, ?_⟩
  rw [hI.len, List.length_map, hJ.len, List.length_map]
  exact q
theorem three_of {ns : List Int} (h : ns.length = 3) : ∃ x y z, ns = [x, y, z] := by
  match ns, h with
  | [x, y, z], _ => exact ⟨x, y, z, rfl⟩
def sp_mark_bounds (K : PySem.W.Frag) (CF : Addr) : Sp := fun vs H Q _ => ∃ (p : Addr) (F : Fm) (own : List Addr) (here : Pt) (d : Dd) (x v : V), vs = [.ref p, x, v] ∧ FrI K CF H p F own ∧ Im K H (ptP here) x ∧ Im K H (ddP d) v ∧ d.place = 2 ∧ d.nums.length = 3 ∧ 0 ≤ d.nums.getD 0 0 ∧ d.nums.getD 0 0 < F.sources.length ∧ Six (srOf F (d.nums.getD 0 0)).kinds (d.nums.getD 1 0) ∧ (kdOf (srOf F (d.nums.getD 0 0)).kinds (d.nums.getD 1 0)).high.isSome = true ∧
  ∀ (a : Addr) (H' : Hp), Same H H' → H a = none → LsI K H' a ((markM F here d).map bdP) → Q (.ref a) H'
set_option maxHeartbeats 1000000 in
theorem ok_mark_bounds {f : Addr} {fd : FuncData} {CF : Addr} (TF : Ck_Frame K mg CF) (D : Df K mg "mark_bounds" s_mark_bounds ["frame", "here", "deed"] f fd) (T : Txt K mg) {a_START : Addr} (c_START : TupC K mg "START" a_START [(-1), 0, (-1)]) {f_from_to_later : Addr} {fd_from_to_later : FuncData} (D_from_to_later : Df K mg "from_to_later" s_from_to_later ["first", "second", "least", "most", "part"] f_from_to_later fd_from_to_later) (G_from_to_later : FnOk P w K mg base CX0 2 f_from_to_later fd_from_to_later ["first", "second", "least", "most", "part"] (sp_from_to_later K)) {f_Frame_source_part : Addr} {fd_Frame_source_part : FuncData} (M_Frame_source_part : Mt K CF "source_part" "Frame.source_part" s_Frame_source_part ["self", "source"] f_Frame_source_part fd_Frame_source_part) (G_Frame_source_part : FnOk P w K mg base CX0 1 f_Frame_source_part fd_Frame_source_part ["self", "source"] (sp_Frame_source_part K CF)) : FnOk P w K mg base CX0 3 f fd ["frame", "here", "deed"] (sp_mark_bounds K CF) := by
  refine D.F.ok sc_mark_bounds (fun vs H Q E h => ?_) (fun cdv A outer s H vs Q E hr h => ?_)
  · obtain ⟨p, F, own, here, d, x, v, rfl, _⟩ := h
    rfl
  obtain ⟨p, F, own, here, d, x, v, rfl, hF, hx, hd, h2, h3, s0, s1, hs, hsome, q⟩ := h
  refine ⟨_, (pss_cons (ps_asg (pv 2) (pg_tup rfl (pgs_cons (pg_name (i := 3) sc_mark_bounds.nd rfl (Or.inl rfl)) (pgs_cons (pg_name (i := 4) sc_mark_bounds.nd rfl (Or.inl rfl)) (pgs_cons (pg_name (i := 5) sc_mark_bounds.nd rfl (Or.inl rfl)) (pgs_cons (pg_name (i := 6) sc_mark_bounds.nd rfl (Or.inl rfl)) pgs_nil))))))
    (C8.pss_cut (ps_asg (pe_ix ix_tup (pe_ix ix_tup (pe_ix ix_list (pe_fld (pv 0) rfl) (pv 4) (fun _ _ => rfl)) pe_int (fun _ _ => rfl)) (pv 5) (fun _ _ => rfl)) (pg_tup rfl (pgs_cons (pg_name (i := 3) sc_mark_bounds.nd rfl (Or.inl rfl)) (pgs_cons (pg_name (i := 7) sc_mark_bounds.nd rfl (Or.inl rfl)) (pgs_cons (pg_name (i := 8) sc_mark_bounds.nd rfl (Or.inl rfl)) pgs_nil)))))
    (pss_one (ps_ret (pe_call G_from_to_later (hr.mono (by decide)) rfl D_from_to_later.m D_from_to_later.F.kp D_from_to_later.b .nil pass0 (pa_cons (pe_glob (v := V.ref a_START) rfl c_START.m rfl) (pa_cons (pv 1) (pa_cons (pe_op op_sub (pv 6) (pv 7)) (pa_cons (pe_op op_add (pv 6) (pv 8)) (pa_cons (pe_meth (pv 0) TF.cl M_Frame_source_part.m G_Frame_source_part (hr.mono (by decide)) M_Frame_source_part.b .nil pass0 (pa_cons (pv 4) pa_nil)) pa_nil)))))))))), ?_⟩
  have hF0 := hF
  obtain ⟨dx, dd, cc, l, s, _, hp, _, _, _, ⟨ss, hss, hI⟩⟩ := hF
  obtain ⟨da, z, rest, rfl, hz, hdt, hrest⟩ := Im.undd (by omega) hd
  rcases hrest with ⟨e8, _⟩ | ⟨_, rfl⟩
  · exact absurd (h2.symm.trans e8) (by decide)
  obtain ⟨so, ki, va, hn⟩ := three_of h3
  unfold markM at q
  rw [hn] at hdt s0 s1 hs hsome q
  have s0 : 0 ≤ so := s0
  have s1 : so < (F.sources.length : Int) := s1
  have hs : Six (srOf F so).kinds ki := hs
  obtain ⟨ca, ta, ws, hca, hct, htt, hks⟩ := sr_at hI s0 s1
  obtain ⟨ka, hka, hkt⟩ := kd_at hks hs
  obtain ⟨hi, hhi⟩ := Option.isSome_iff_exists.mp hsome
  have hhi : (kdOf (srOf F so).kinds ki).high = some hi := hhi
  have ehi : hiOf (kdOf (srOf F so).kinds ki) = hi := by unfold hiOf; rw [hhi]; rfl
  have q : ∀ (a : Addr) (H' : Hp), Same H H' → H a = none → LsI K H' a ((ftl stP here (va - (kdOf (srOf F so).kinds ki).low) (va + hiOf (kdOf (srOf F so).kinds ki)) ((F.clocks.length : Int) + F.links.length + so)).map bdP) → Q (.ref a) H' := q
  rw [ehi] at q
  rw [hhi] at hkt
  refine ⟨_, rfl, _, _, rfl, hdt, rfl, _, _, rfl, _, _, rfl, _, _, rfl, _, _, rfl, rfl, ?_⟩
  refine ⟨fun σ H' => ∃ z, σ = [some (.ref p), some x, some (.ref da), some z, some (.int so), some (.int ki), some (.int va), some (.int (kdOf (srOf F so).kinds ki).low), some (.int hi)] ∧ H = H', ?_, ?_⟩
  · exact ⟨_, rfl, p, CF, dx, _, _, rfl, hp, TF.cl, TF.n_sources, lk_Frame_sources, _, rfl, _, _, _, _, rfl, rfl, SqL.of hss, hca, _, _, _, _, rfl, rfl, hct, at_of (j := 2) rfl rfl, _, rfl, _, _, _, _, rfl, rfl, htt, hka, _, _, rfl, hkt, rfl, _, _, rfl, _, _, rfl, _, _, rfl, rfl, _, rfl, rfl⟩
  rintro σ H' ⟨z, rfl, rfl⟩
  exact ⟨_, rfl, _, rfl, _, rfl, _, _, rfl, rfl, _, rfl, _, rfl, _, _, rfl, rfl, _, rfl, p, dx, _, rfl, hp, no_Frame, _, rfl, p, F, own, so, rfl, hF0, V.ref a_START, x, stP, here, va - (kdOf (srOf F so).kinds ki).low, va + hi, (F.clocks.length : Int) + F.links.length + so, rfl, ptI (c_START.sq H), hx, q⟩
def sp_Frame_link_part (K : PySem.W.Frag) (CF : Addr) : Sp := fun vs H Q _ => ∃ (p : Addr) (F : Fm) (own : List Addr) (i : Int), vs = [.ref p, .int i] ∧ FrI K CF H p F own ∧ Q (.int ((F.clocks.length : Int) + i)) H
theorem ok_Frame_link_part {f : Addr} {fd : FuncData} {CF : Addr} (TF : Ck_Frame K mg CF) (D : Mt K CF "link_part" "Frame.link_part" s_Frame_link_part ["self", "link"] f fd) (T : Txt K mg) : FnOk P w K mg base CX0 1 f fd ["self", "link"] (sp_Frame_link_part K CF) := by
  refine D.F.ok sc_Frame_link_part (fun vs H Q E h => ?_) (fun cdv A outer s H vs Q E hr h => ?_)
  · obtain ⟨p, F, own, i, rfl, _⟩ := h
    rfl
  obtain ⟨p, F, own, i, rfl, ⟨dx, d, c, l, s, _, hp, _, ⟨vs, hc, hI⟩, _, _⟩, q⟩ := h
  refine ⟨_, (pss_one (ps_ret (pe_op op_add (pe_callB call_len_seq rfl T.len PySem.boot_len (pa_cons (pe_fld (pv 0) rfl) pa_nil)) (pv 1)))), ?_⟩
  refine ⟨_, rfl, p, CF, dx, _, _, rfl, hp, TF.cl, TF.n_clocks, lk_Frame_clocks, _, _, rfl, .inl (SqL.of hc), _, rfl, _, _, rfl, rfl, ?_⟩
  rw [hI.len, List.length_map]
  exact q
def sp_hear_bounds (K : PySem.W.Frag) (CF : Addr) : Sp := fun vs H Q _ => ∃ (p : Addr) (F : Fm) (own : List Addr) (here : Pt) (d : Dd) (k : Option Int) (x v : V), vs = [.ref p, x, v, hiV k] ∧ FrI K CF H p F own ∧ Im K H (ptP here) x ∧ Im K H (ddP d) v ∧ d.place = 5 ∧ d.nums.length = 2 ∧ 0 ≤ d.nums.getD 0 0 ∧ d.nums.getD 0 0 < F.links.length ∧ (∀ j, k = some j → Six (lkOf F (d.nums.getD 0 0)).kinds j) ∧
  ∀ (a : Addr) (H' : Hp), Same H H' → H a = none → LsI K H' a ((hearM F here d k).map bdP) → Q (.ref a) H'
set_option maxHeartbeats 1000000 in
theorem ok_hear_bounds {f : Addr} {fd : FuncData} {CF : Addr} (TF : Ck_Frame K mg CF) (D : Df K mg "hear_bounds" s_hear_bounds ["frame", "here", "deed", "kind"] f fd) (T : Txt K mg) {t_NO_PART : Tok} (g_NO_PART : mg "NO_PART" = some (.int (-1) t_NO_PART)) {f_event_point : Addr} {fd_event_point : FuncData} (D_event_point : Df K mg "event_point" s_event_point ["event"] f_event_point fd_event_point) (G_event_point : FnOk P w K mg base CX0 1 f_event_point fd_event_point ["event"] (sp_event_point K)) {f_at_least_later : Addr} {fd_at_least_later : FuncData} (D_at_least_later : Df K mg "at_least_later" s_at_least_later ["first", "second", "least", "part"] f_at_least_later fd_at_least_later) (G_at_least_later : FnOk P w K mg base CX0 1 f_at_least_later fd_at_least_later ["first", "second", "least", "part"] (sp_at_least_later K)) {f_Frame_link_part : Addr} {fd_Frame_link_part : FuncData} (M_Frame_link_part : Mt K CF "link_part" "Frame.link_part" s_Frame_link_part ["self", "link"] f_Frame_link_part fd_Frame_link_part) (G_Frame_link_part : FnOk P w K mg base CX0 1 f_Frame_link_part fd_Frame_link_part ["self", "link"] (sp_Frame_link_part K CF)) : FnOk P w K mg base CX0 2 f fd ["frame", "here", "deed", "kind"] (sp_hear_bounds K CF) := by
  refine D.F.ok sc_hear_bounds (fun vs H Q E h => ?_) (fun cdv A outer s H vs Q E hr h => ?_)
  · obtain ⟨p, F, own, here, d, k, x, v, rfl, _⟩ := h
    rfl
  obtain ⟨p, F, own, here, d, k, x, v, rfl, hF, hx, hd, h5, h2, l0, l1, hk, q⟩ := h
  refine ⟨_, (pss_cons (ps_asg (pv 2) (pg_tup rfl (pgs_cons (pg_name (i := 6) sc_hear_bounds.nd rfl (Or.inl rfl)) (pgs_cons (pg_name (i := 7) sc_hear_bounds.nd rfl (Or.inl rfl)) (pgs_cons (pg_name (i := 8) sc_hear_bounds.nd rfl (Or.inl rfl)) pgs_nil)))))
    (C8.pss_cut (ps_set (i := 4) sc_hear_bounds.nd rfl (Or.inl rfl) (pe_call G_event_point (hr.mono (by decide)) rfl D_event_point.m D_event_point.F.kp D_event_point.b .nil pass0 (pa_cons (pe_tup (pa_cons (pe_ix ix_tup (pe_ix ix_list (pe_fld (pv 0) rfl) (pv 7) (fun _ _ => rfl)) pe_int (fun _ _ => rfl)) (pa_cons (pv 8) pa_nil))) pa_nil)))
    (pss_cons (ps_set (i := 5) sc_hear_bounds.nd rfl (Or.inl rfl) (pe_lst (pa_cons (pe_call G_at_least_later (hr.mono (by decide)) rfl D_at_least_later.m D_at_least_later.F.kp D_at_least_later.b .nil pass0 (pa_cons (pv 4) (pa_cons (pv 1) (pa_cons pe_int (pa_cons (pe_glob (v := V.int (-1)) rfl g_NO_PART ⟨_, rfl⟩) pa_nil))))) pa_nil)))
    (pss_cons (ps_if (pt_cmpR op_notN (pv 3) pe_non (nomark _))
      (C8.pss_cut (ps_asg (pe_ix ix_tup (pe_ix ix_tup (pe_ix ix_list (pe_fld (pv 0) rfl) (pv 7) (fun _ _ => rfl)) pe_int (fun _ _ => rfl)) (pv 3) (fun _ _ => rfl)) (pg_tup rfl (pgs_cons (pg_name (i := 6) sc_hear_bounds.nd rfl (Or.inl rfl)) (pgs_cons (pg_name (i := 10) sc_hear_bounds.nd rfl (Or.inl rfl)) (pgs_cons (pg_name (i := 11) sc_hear_bounds.nd rfl (Or.inl rfl)) pgs_nil)))))
    (pss_cons (ps_set (i := 9) sc_hear_bounds.nd rfl (Or.inl rfl) (pe_meth (pv 0) TF.cl M_Frame_link_part.m G_Frame_link_part (hr.mono (by decide)) M_Frame_link_part.b .nil pass0 (pa_cons (pv 7) pa_nil)))
    (pss_cons (ps_expr (pe_bm PySem.F.plainAttrs_list PySem.F.slot_list_append PySem.F.type_list_append mt_append (pv 5) (pa_cons (pe_call G_at_least_later (hr.mono (by decide)) rfl D_at_least_later.m D_at_least_later.F.kp D_at_least_later.b .nil pass0 (pa_cons (pv 4) (pa_cons (pv 1) (pa_cons (pv 10) (pa_cons (pv 9) pa_nil))))) pa_nil)))
    (pss_one (ps_if (pt_cmpR op_notN (pv 11) pe_non (nomark _))
      (pss_one (ps_expr (pe_bm PySem.F.plainAttrs_list PySem.F.slot_list_append PySem.F.type_list_append mt_append (pv 5) (pa_cons (pe_tup (pa_cons (pv 4) (pa_cons (pv 1) (pa_cons (pv 11) (pa_cons (pv 9) pa_nil))))) pa_nil))))
      pss_nil)))))
      pss_nil)
    (pss_one (ps_ret (pv 5))))))), ?_⟩
  have hF0 := hF
  obtain ⟨dx, dd, cc, l, s, _, hp, _, _, ⟨ls, hls, hI⟩, _⟩ := hF
  obtain ⟨da, z, rest, rfl, hz, hdt, hrest⟩ := Im.undd (by omega) hd
  rcases hrest with ⟨e8, _⟩ | ⟨_, rfl⟩
  · exact absurd (h5.symm.trans e8) (by decide)
  obtain ⟨li, nu, hn⟩ := two_of h2
  unfold hearM at q
  rw [hn] at hdt l0 l1 hk q
  have l0 : 0 ≤ li := l0
  have l1 : li < (F.links.length : Int) := l1
  have hk : ∀ j, k = some j → Six (lkOf F li).kinds j := hk
  obtain ⟨ca, ta, ws, hca, hct, htt, hks⟩ := lk_at hI l0 l1
  dsimp only at q
  have e0 : ([li, nu] : List Int).getD 0 0 = li := rfl
  have e1 : ([li, nu] : List Int).getD 1 0 = nu := rfl
  rw [e0, e1] at q
  refine ⟨_, rfl, _, _, rfl, hdt, rfl, _, _, rfl, _, _, rfl, _, _, rfl, rfl, ?_⟩
  refine ⟨fun σ H' => ∃ z w, σ = [some (.ref p), some x, some (.ref da), some (hiV k), some w, none, some z, some (.int li), some (.int nu), none, none, none] ∧ Same H H' ∧ Im K H' (ptP ⟨(lkOf F li).s, nu, -1⟩) w, ?_, ?_⟩
  · refine ⟨_, rfl, p, CF, dx, _, _, rfl, hp, TF.cl, TF.n_links, lk_Frame_links, _, rfl, _, _, _, _, rfl, rfl, SqL.of hls, hca, _, _, _, _, rfl, rfl, hct, at_of (j := 1) rfl rfl, _, rfl, (by show 2 ≤ sizeLine; decide), fun a1 n1 => ?_⟩
    generalize e1 : upd H a1 _ = H1
    obtain ⟨s1, h1⟩ := fr e1 n1
    clear e1
    exact ⟨a1, _, nu, rfl, SqT.of h1, fun w H2 s2 i2 => ⟨_, w, rfl, s1.trans s2, i2⟩⟩
  rintro σ H2 ⟨z, w, rfl, s2, i2⟩
  have k2 := TupK.of s2
  refine ⟨_, rfl, _, rfl, _, _, _, here, 0, -1, rfl, i2, Im.mono k2 _ hx, fun v3 H3 s3 i3 => ⟨(by show 1 ≤ sizeLine; decide), fun a4 n4 => ?_⟩⟩
  generalize e4 : upd H3 a4 _ = H4
  obtain ⟨s4, h4⟩ := fr e4 n4
  clear e4
  have s34 := s3.trans s4
  have s04 := s2.trans s34
  have k04 := TupK.of s04
  have n40 : H a4 = none := (s2.trans s3).free n4
  have hL4 : LsI K H4 a4 ([(⟨here, ⟨(lkOf F li).s, nu, -1⟩, -0, -1⟩ : Bd)].map bdP) := ⟨_, h4, ImL.cons_ (Im.mono (.of s4) _ i3) ImL.nil_⟩
  cases k with
  | none =>
    dsimp only at q
    refine ⟨_, rfl, rfl, _, rfl, ite2 (fun g => absurd g (by rw [decide_eq_true (show (hiV none) = V.non from rfl)]; decide)) (fun g => ⟨_, rfl, q a4 H4 s04 n40 ?_⟩)⟩
    rw [List.append_nil]
    exact hL4
  | some j =>
    dsimp only at q
    have hsj := hk j rfl
    obtain ⟨ka, hka, hkt⟩ := kd_at hks hsj
    refine ⟨_, rfl, rfl, _, rfl, ite2 (fun g => ?_) (fun g => absurd (by rw [decide_eq_false (show ¬ (hiV (some j)) = V.non from by intro z; cases z)]; rfl) g)⟩
    refine ⟨fun σ H' => ∃ z, σ = [some (.ref p), some x, some (.ref da), some (.int j), some w, some (.ref a4), some z, some (.int li), some (.int nu), none, some (.int (kdOf (lkOf F li).kinds j).low), some (hiV (kdOf (lkOf F li).kinds j).high)] ∧ H4 = H', ?_, ?_⟩
    · exact ⟨_, rfl, p, CF, dx, _, _, rfl, s04 _ _ hp, TF.cl, TF.n_links, lk_Frame_links, _, rfl, _, _, _, _, rfl, rfl, SqL.of (s04 _ _ hls), hca, _, _, _, _, rfl, rfl, k04.sq hct, at_of (j := 3) rfl rfl, _, rfl, _, _, _, _, rfl, rfl, k04.sq htt, hka, _, _, rfl, k04.sq hkt, rfl, _, _, rfl, _, _, rfl, _, _, rfl, rfl, _, rfl, rfl⟩
    rintro σ H' ⟨z, rfl, rfl⟩
    refine ⟨_, rfl, p, dx, _, rfl, s04 _ _ hp, no_Frame, _, rfl, p, F, own, li, rfl, hF0.keep s04, ?_⟩
    obtain ⟨w4, hw4, _⟩ := id hL4
    refine ⟨_, rfl, .inl ⟨rfl, _, SqL.of hw4⟩, _, rfl, _, rfl, _, rfl, _, rfl, _, _, _, here, _, _, rfl, Im.mono (.of s34) _ i2, Im.mono k04 _ hx, fun v5 H5 s5 i5 => ?_⟩
    obtain ⟨w5, hw5, hl5, i6⟩ := (hL4.keep s5).snoc i5
    refine ⟨_, _, _, rfl, rfl, hw5, by rw [hl5]; exact sizes' (by show 1 ≤ 100000; decide), ?_⟩
    have k56 : TupK H5 (upd H5 a4 (.lst (w5 ++ [v5]))) := .set hw5
    generalize e6 : upd H5 a4 _ = H6 at *
    obtain ⟨b6, h6⟩ := stt e6
    clear e6
    have k46 := (TupK.of s5).trans k56
    have back : ∀ b o, H b = some o → H6 b = some o := fun b o hb => by
      have nb : b ≠ a4 := ne_of_none hb n40
      exact b6 _ _ nb (s5 _ _ (s04 _ _ hb))
    cases hh : (kdOf (lkOf F li).kinds j).high with
    | none =>
      rw [hh] at q
      dsimp only at q
      refine ⟨_, rfl, rfl, _, rfl, ite2 (fun g => absurd g (by rw [decide_eq_true (show (hiV none) = V.non from rfl)]; decide)) (fun g => ⟨_, rfl, q a4 H6 back n40 ?_⟩)⟩
      simp only [List.map_append, List.append_nil]
      exact i6
    | some m =>
      rw [hh] at q
      dsimp only at q
      refine ⟨_, rfl, rfl, _, rfl, ite2 (fun g => ?_) (fun g => absurd (by rw [decide_eq_false (show ¬ (hiV (some m)) = V.non from by intro z; cases z)]; rfl) g)⟩
      obtain ⟨w6, hw6, _⟩ := id i6
      refine ⟨_, rfl, .inl ⟨rfl, _, SqL.of hw6⟩, _, rfl, _, rfl, _, rfl, _, rfl, (by show 4 ≤ sizeLine; decide), fun a7 n7 => ?_⟩
      generalize e7 : upd H6 a7 _ = H7
      obtain ⟨s7, h7⟩ := fr e7 n7
      clear e7
      have k7 := TupK.of s7
      have hw : Im K H7 (ptP ⟨(lkOf F li).s, nu, -1⟩) w := Im.mono k7 _ (Im.mono k46 _ (Im.mono (.of s34) _ i2))
      have hx7 : Im K H7 (ptP here) x := Im.mono k7 _ (Im.mono k46 _ (Im.mono k04 _ hx))
      obtain ⟨w8, hw8, hl8, i9⟩ := (i6.keep s7).snoc (bdI (b := ⟨⟨(lkOf F li).s, nu, -1⟩, here, m, (F.clocks.length : Int) + li⟩) (SqT.of h7) hw hx7)
      refine ⟨_, _, _, rfl, rfl, hw8, by rw [hl8]; exact sizes' (by show 2 ≤ 100000; decide), ?_⟩
      refine ⟨_, rfl, q a4 _ (fun b o hb => ?_) n40 ?_⟩
      · rw [upd_ne (ne_of_none hb n40)]
        exact s7 _ _ (back b o hb)
      · simp only [List.map_append]
        exact i9
theorem sameBut {a : Addr} {H0 H H' : Hp} (e : Same H0 H) (ha : H0 a = none) (s : But a H H') : Same H0 H' := fun c u h => s c u (ne_of_none h ha) (e c u h)
def sp_event_bounds (K : PySem.W.Frag) (CF : Addr) : Sp := fun vs H Q _ => ∃ (p ra hl : Addr) (F : Fm) (own : List Addr) (dev n : Int) (e : Ev) (hs : List HdM) (k : Option Int) (v : V), vs = [.ref p, .ref ra, .ref hl, hiV k] ∧ FrI K CF H p F own ∧ F.clocks.length ≤ 100 ∧ SqT K H ra [.int dev, .int n, v] ∧ Im K H (evP e) v ∧ LsI K H hl (hs.map hdP) ∧ EvFit F dev e hs k ∧
  ∀ (t b h : Addr) (H' : Hp), Same H H' → H b = none → H h = none → b ≠ h → SqT K H' t [.ref b, .ref h] → LsI K H' b ((evB F dev n e hs k).map bdP) → LsI K H' h ((evH F dev n e hs).map hdP) → Q (.ref t) H'
set_option maxHeartbeats 2000000 in
theorem ok_event_bounds {f : Addr} {fd : FuncData} {CF : Addr} (TF : Ck_Frame K mg CF) (D : Df K mg "event_bounds" s_event_bounds ["frame", "record", "hands", "kind"] f fd) (T : Txt K mg) {t_NO_PART : Tok} (g_NO_PART : mg "NO_PART" = some (.int (-1) t_NO_PART)) {f_event_point : Addr} {fd_event_point : FuncData} (D_event_point : Df K mg "event_point" s_event_point ["event"] f_event_point fd_event_point) (G_event_point : FnOk P w K mg base CX0 1 f_event_point fd_event_point ["event"] (sp_event_point K)) {f_at_least_later : Addr} {fd_at_least_later : FuncData} (D_at_least_later : Df K mg "at_least_later" s_at_least_later ["first", "second", "least", "part"] f_at_least_later fd_at_least_later) (G_at_least_later : FnOk P w K mg base CX0 1 f_at_least_later fd_at_least_later ["first", "second", "least", "part"] (sp_at_least_later K)) {f_clock_bounds : Addr} {fd_clock_bounds : FuncData} (D_clock_bounds : Df K mg "clock_bounds" s_clock_bounds ["frame", "record", "clock", "place", "hand"] f_clock_bounds fd_clock_bounds) (G_clock_bounds : FnOk P w K mg base CX0 3 f_clock_bounds fd_clock_bounds ["frame", "record", "clock", "place", "hand"] (sp_clock_bounds K CF)) {f_hands_after : Addr} {fd_hands_after : FuncData} (D_hands_after : Df K mg "hands_after" s_hands_after ["frame", "record", "hands"] f_hands_after fd_hands_after) (G_hands_after : FnOk P w K mg base CX0 3 f_hands_after fd_hands_after ["frame", "record", "hands"] (sp_hands_after K CF)) {f_mark_bounds : Addr} {fd_mark_bounds : FuncData} (D_mark_bounds : Df K mg "mark_bounds" s_mark_bounds ["frame", "here", "deed"] f_mark_bounds fd_mark_bounds) (G_mark_bounds : FnOk P w K mg base CX0 3 f_mark_bounds fd_mark_bounds ["frame", "here", "deed"] (sp_mark_bounds K CF)) {f_hear_bounds : Addr} {fd_hear_bounds : FuncData} (D_hear_bounds : Df K mg "hear_bounds" s_hear_bounds ["frame", "here", "deed", "kind"] f_hear_bounds fd_hear_bounds) (G_hear_bounds : FnOk P w K mg base CX0 2 f_hear_bounds fd_hear_bounds ["frame", "here", "deed", "kind"] (sp_hear_bounds K CF)) {f_Frame_clocks_of : Addr} {fd_Frame_clocks_of : FuncData} (M_Frame_clocks_of : Mt K CF "clocks_of" "Frame.clocks_of" s_Frame_clocks_of ["self", "device"] f_Frame_clocks_of fd_Frame_clocks_of) (G_Frame_clocks_of : FnOk P w K mg base CX0 1 f_Frame_clocks_of fd_Frame_clocks_of ["self", "device"] (sp_Frame_clocks_of K CF)) : FnOk P w K mg base CX0 4 f fd ["frame", "record", "hands", "kind"] (sp_event_bounds K CF) := by
  refine D.F.ok sc_event_bounds (fun vs H Q E h => ?_) (fun cdv A outer s H vs Q E hr h => ?_)
  · obtain ⟨p, ra, hl, F, own, dev, n, e, hs, k, v, rfl, _⟩ := h
    rfl
  obtain ⟨p, ra, hl, F, own, dev, n, e, hs, k, v, rfl, hF, h100, hra, hv, hhl, hfit, q⟩ := h
  refine ⟨_, (pss_cons (ps_asg (pv 1) (pg_tup rfl (pgs_cons (pg_name (i := 7) sc_event_bounds.nd rfl (Or.inl rfl)) (pgs_cons (pg_name (i := 8) sc_event_bounds.nd rfl (Or.inl rfl)) (pgs_cons (pg_name (i := 9) sc_event_bounds.nd rfl (Or.inl rfl)) pgs_nil)))))
    (pss_cons (ps_set (i := 4) sc_event_bounds.nd rfl (Or.inl rfl) (pe_call G_event_point (hr.mono (by decide)) rfl D_event_point.m D_event_point.F.kp D_event_point.b .nil pass0 (pa_cons (pe_tup (pa_cons (pv 7) (pa_cons (pv 8) pa_nil))) pa_nil)))
    (C8.pss_cut (ps_set (i := 5) sc_event_bounds.nd rfl (Or.inl rfl) (pe_ix ix_tup (pv 9) pe_int (fun _ _ => rfl)))
    (pss_cons (ps_set (i := 6) sc_event_bounds.nd rfl (Or.inl rfl) (pe_lst (pa_cons (pe_call G_at_least_later (hr.mono (by decide)) rfl D_at_least_later.m D_at_least_later.F.kp D_at_least_later.b .nil pass0 (pa_cons (pe_call G_event_point (hr.mono (by decide)) rfl D_event_point.m D_event_point.F.kp D_event_point.b .nil pass0 (pa_cons (pe_tup (pa_cons (pv 7) (pa_cons (pe_op op_sub (pv 8) pe_int) pa_nil))) pa_nil)) (pa_cons (pv 4) (pa_cons pe_int (pa_cons (pe_glob (v := V.int (-1)) rfl g_NO_PART ⟨_, rfl⟩) pa_nil))))) pa_nil)))
    (pss_cons (ps_for PassesOwn.never rfl (pi_enum rfl T.enumerate (pa_cons (pe_meth (pv 0) TF.cl M_Frame_clocks_of.m G_Frame_clocks_of (hr.mono (by decide)) M_Frame_clocks_of.b .nil pass0 (pa_cons (pv 7) pa_nil)) pa_nil)) (pg_tup rfl (pgs_cons (pg_name (i := 10) sc_event_bounds.nd rfl (Or.inl rfl)) (pgs_cons (pg_name (i := 11) sc_event_bounds.nd rfl (Or.inl rfl)) pgs_nil)))
      (pss_one (ps_expr (pe_bm PySem.F.plainAttrs_list PySem.F.slot_list_extend PySem.F.type_list_extend mt_extend (pv 6) (pa_cons (pe_call G_clock_bounds (hr.mono (by decide)) rfl D_clock_bounds.m D_clock_bounds.F.kp D_clock_bounds.b .nil pass0 (pa_cons (pv 0) (pa_cons (pv 1) (pa_cons (pv 11) (pa_cons (pv 10) (pa_cons (pe_ix ix_list (pv 2) (pv 10) (fun _ _ => rfl)) pa_nil)))))) pa_nil)))))
    (C8.pss_cut (ps_if (pt_cmpR op_eq (pe_ix ix_tup (pv 5) pe_int (fun _ _ => rfl)) pe_str (nomark _))
      (pss_one (ps_expr (pe_bm PySem.F.plainAttrs_list PySem.F.slot_list_extend PySem.F.type_list_extend mt_extend (pv 6) (pa_cons (pe_call G_mark_bounds (hr.mono (by decide)) rfl D_mark_bounds.m D_mark_bounds.F.kp D_mark_bounds.b .nil pass0 (pa_cons (pv 0) (pa_cons (pv 4) (pa_cons (pv 5) pa_nil)))) pa_nil))))
      (pss_one (ps_if (pt_cmpR op_eq (pe_ix ix_tup (pv 5) pe_int (fun _ _ => rfl)) pe_str (nomark _))
      (pss_one (ps_expr (pe_bm PySem.F.plainAttrs_list PySem.F.slot_list_extend PySem.F.type_list_extend mt_extend (pv 6) (pa_cons (pe_call G_hear_bounds (hr.mono (by decide)) rfl D_hear_bounds.m D_hear_bounds.F.kp D_hear_bounds.b .nil pass0 (pa_cons (pv 0) (pa_cons (pv 4) (pa_cons (pv 5) (pa_cons (pv 3) pa_nil))))) pa_nil))))
      pss_nil)))
    (pss_one (ps_ret (pe_tup (pa_cons (pv 6) (pa_cons (pe_call G_hands_after (hr.mono (by decide)) rfl D_hands_after.m D_hands_after.F.kp D_hands_after.b .nil pass0 (pa_cons (pv 0) (pa_cons (pv 1) (pa_cons (pv 2) pa_nil)))) pa_nil))))))))))), ?_⟩
  have hF0 := hF
  have hv0 := hv
  obtain ⟨dx, d_, c_, l_, s_, _, hp, _⟩ := hF
  obtain ⟨ea, e1, e2, ed, e3, rfl, het, i1, i2, i3, _⟩ := Im.unev hv
  obtain ⟨da, z, rest, rfl, hz, hdt, _⟩ := Im.undd hfit.pl i3
  refine ⟨_, rfl, _, _, rfl, hra, rfl, _, _, rfl, _, _, rfl, _, _, rfl, rfl, ?_⟩
  refine ⟨_, rfl, _, rfl, (by show 2 ≤ sizeLine; decide), fun a1 n1 => ?_⟩
  generalize e1 : upd H a1 _ = H1
  obtain ⟨s1, h1⟩ := fr e1 n1
  clear e1
  refine ⟨a1, dev, n, rfl, SqT.of h1, fun vh H2 s2 ih2 => ?_⟩
  have s02 := s1.trans s2
  have k02 := TupK.of s02
  refine ⟨fun σ H' => σ = [some (.ref p), some (.ref ra), some (.ref hl), some (hiV k), some vh, some (.ref da), none, some (.int dev), some (.int n), some (.ref ea), none, none] ∧ H2 = H', ?_, ?_⟩
  · exact ⟨_, rfl, _, _, _, _, rfl, rfl, k02.sq het, at_of (j := 3) rfl rfl, rfl, rfl⟩
  rintro σ H' ⟨rfl, rfl⟩
  refine ⟨_, rfl, _, rfl, _, _, rfl, rfl, (by show 2 ≤ sizeLine; decide), fun a3 n3 => ?_⟩
  generalize e3 : upd H2 a3 _ = H3
  obtain ⟨s3, h3⟩ := fr e3 n3
  clear e3
  refine ⟨a3, dev, n - 1, rfl, SqT.of h3, fun vp H4 s4 ip4 => ?_⟩
  refine ⟨_, rfl, _, _, ⟨dev, n - 1, -1⟩, ⟨dev, n, -1⟩, 0, -1, rfl, ip4, Im.mono (.of (s3.trans s4)) _ ih2, fun v5 H5 s5 i5 => ⟨(by show 1 ≤ sizeLine; decide), fun a6 n6 => ?_⟩⟩
  generalize e6 : upd H5 a6 _ = H6
  obtain ⟨s6, h6⟩ := fr e6 n6
  clear e6
  have s05 := s02.trans (s3.trans (s4.trans s5))
  have s06 := s05.trans s6
  have nb : H a6 = none := s05.free n6
  have ih6 : Im K H6 (ptP ⟨dev, n, -1⟩) vh := Im.mono (.of (s3.trans (s4.trans (s5.trans s6)))) _ ih2
  have hB6 : LsI K H6 a6 ([(⟨⟨dev, n, -1⟩, ⟨dev, n - 1, -1⟩, -0, -1⟩ : Bd)].map bdP) := ⟨_, h6, ImL.cons_ (Im.mono (.of s6) _ i5) ImL.nil_⟩
  clear h6 n6 s05 i5 ip4 ih2 s3 s4 s5 s6 h3 n3 h1 n1 s1 s2 s02 k02
  refine ⟨_, rfl, p, dx, _, rfl, s06 _ _ hp, no_Frame, _, rfl, p, F, own, dev, rfl, hF0.keep s06, h100, fun l8 H8 s8 n8 h8 => ?_⟩
  have s08 := s06.trans s8
  obtain ⟨wb, hwb, _⟩ := id (hB6.keep s8)
  have ncl : (cks F dev).length ≤ 100 := Nat.le_trans (ckN_len _ _ _) h100
  have n86 : l8 ≠ a6 := by
    obtain ⟨_, x, _⟩ := id hB6
    exact (ne_of_none x n8).symm
  refine ⟨_, _, rfl, SqL.of h8, for_it (walk_enum (K := K) (a := l8) (xs := (cks F dev).map V.int)) (fun i σ H' => ∃ v11 v12, σ = [some (.ref p), some (.ref ra), some (.ref hl), some (hiV k), some vh, some (.ref da), some (.ref a6), some (.int dev), some (.int n), some (.ref ea), v11, v12] ∧ But a6 H8 H' ∧ LsI K H' a6 ((⟨⟨dev, n, -1⟩, ⟨dev, n - 1, -1⟩, -0, -1⟩ :: (List.range i).flatMap (cB F dev n e hs)).map bdP))
    ⟨none, none, rfl, But.refl _ _, hB6.keep s8⟩ (fun i σ H' _ ⟨_, _, _, b, _⟩ => SqL.of (b _ _ n86 h8)) ?_ ?_⟩
  · rintro i x σ H9 H10 hi ⟨v11, v12, rfl, b9, hB9⟩ ⟨T, x1, x2, rfl, nT, rfl, hx1, hx2⟩
    cases hx1
    rw [List.length_map] at hi
    have hx2 : ((cks F dev).map V.int)[i]? = some x2 := hx2
    rw [List.getElem?_map, getD_ix (d := 0) hi] at hx2
    cases hx2
    obtain ⟨sT, hT⟩ := fr (rfl : upd H9 T (.tup [.int (i : Nat), .int ((cks F dev).getD i 0)]) = _) nT
    generalize upd H9 T (.tup [.int (i : Nat), .int ((cks F dev).getD i 0)]) = H10 at *
    have b10 := b9.trans (But.of sT)
    have s010 := sameBut s08 nb b10
    have k010 := TupK.of s010
    have hB10 := hB9.keep sT
    obtain ⟨c0, c1⟩ := cks_in (F := F) (dev := dev) hi
    obtain ⟨ws, hws, hwi⟩ := id hhl
    have hsl : (hs.map hdP).length = (cks F dev).length := by rw [List.length_map]; exact hfit.hl
    obtain ⟨dd, vv, hd1, hd2, hd3⟩ := list_at (j := (i : Int)) hwi (by omega) (by rw [hsl]; omega)
    obtain ⟨hm, hhm, rfl⟩ := map_get hd1
    have ehm : hm = hs.getD i dfH := by
      have := getD_ix (d := dfH) (xs := hs) (i := i) (by rw [hfit.hl]; exact hi)
      rw [show ((i : Int)).toNat = i from by omega] at hhm
      rw [hhm] at this
      exact Option.some.inj this
    subst ehm
    obtain ⟨w6, hw6, hl6⟩ := id hB10
    refine ⟨T, _, rfl, SqT.of hT, rfl, _, _, rfl, _, _, rfl, rfl, _, rfl, .inl ⟨rfl, _, SqL.of hw6⟩, _, rfl, _, rfl, _, rfl, _, rfl, _, rfl, _, rfl, _, _, _, _, rfl, rfl, SqL.of (s010 _ _ hws), hd2, p, ra, F, own, dev, n, (cks F dev).getD i 0, e, i, hs.getD i dfH, _, _, rfl, hF0.keep s010, k010.sq hra, c0, c1, Im.mono k010 _ hv0, hfit.pl, by rw [hfit.sh]; exact hi, Im.mono k010 _ hd3, hfit.kd i hi, hfit.kc i hi, fun a11 H11 s11 n11 i11 => ?_⟩
    obtain ⟨x6, x11, g6, g11, m6, m11, i12⟩ := (hB10.keep s11).app i11
    have hlen := flatB_len (f := cB F dev n e hs) (fun i => clockM_len _ _ _ _ _ _ _) i
    have hlen2 := clockM_len (clOf F ((cks F dev).getD i 0)) ((cks F dev).getD i 0) dev n e (e.shown.getD i 0) (hs.getD i dfH)
    refine ⟨_, _, _, _, rfl, rfl, g6, g11, by rw [m6, m11, List.length_map, List.length_map, List.length_cons]; exact sizes (by omega), _, _, rfl, b10.trans ((But.of s11).trans But.set), ?_⟩
    rw [rangeB, ← List.cons_append, List.map_append]
    exact i12
  rintro σ H9 ⟨v11, v12, rfl, b9, hB9⟩
  rw [List.length_map] at hB9
  have s09 := sameBut s08 nb b9
  have k09 := TupK.of s09
  have ih9 : Im K H9 (ptP ⟨dev, n, -1⟩) vh := Im.mono ((TupK.of s8).trans (TupK.but b9 hwb)) _ ih6
  have hlen := flatB_len (f := cB F dev n e hs) (fun i => clockM_len _ _ _ _ _ _ _) (cks F dev).length
  obtain ⟨w6, hw6, _⟩ := id hB9
  refine ⟨fun σ H' => σ = [some (.ref p), some (.ref ra), some (.ref hl), some (hiV k), some vh, some (.ref da), some (.ref a6), some (.int dev), some (.int n), some (.ref ea), v11, v12] ∧ Same H H' ∧ LsI K H' a6 ((evB F dev n e hs k).map bdP), ?_, ?_⟩
  · refine ⟨_, rfl, _, _, _, _, rfl, rfl, k09.sq hdt, at_of (j := 0) rfl rfl, rfl, _, rfl, ?_⟩
    rw [dn_is hz (show deedNames[2]? = some (Str.ofString "mark") from rfl)]
    unfold evB restM
    refine ite2 (fun g => ?_) (fun g => ?_)
    · have g2 := of_decide_eq_true g
      rw [if_pos g2]
      obtain ⟨m0, m1, m2, m3⟩ := hfit.ma g2
      refine ⟨_, rfl, .inl ⟨rfl, _, SqL.of hw6⟩, _, rfl, _, rfl, _, rfl, p, F, own, ⟨dev, n, -1⟩, e.deed, _, _, rfl, hF0.keep s09, ih9, Im.mono k09 _ i3, g2, by rw [hfit.ar (by omega), g2]; rfl, m0, m1, m2, m3, fun a10 H10 s10 n10 i10 => ?_⟩
      obtain ⟨x6, x10, g6, g10, l6, l10, i11⟩ := (hB9.keep s10).app i10
      refine ⟨_, _, _, _, rfl, rfl, g6, g10, by rw [l6, l10, List.length_map, List.length_map, List.length_cons]; exact sizes (by show _ + 2 ≤ _; omega), rfl, fun b o hb => ?_, ?_⟩
      · rw [upd_ne (ne_of_none hb nb)]
        exact s10 _ _ (s09 _ _ hb)
      · rw [List.map_append]
        exact i11
    · have g2 : e.deed.place ≠ 2 := fun h => g (decide_eq_true h)
      rw [if_neg g2]
      refine ⟨_, rfl, _, _, _, _, rfl, rfl, k09.sq hdt, at_of (j := 0) rfl rfl, rfl, _, rfl, ?_⟩
      rw [dn_is hz (show deedNames[5]? = some (Str.ofString "hear") from rfl)]
      refine ite2 (fun g => ?_) (fun g => ?_)
      · have g5 := of_decide_eq_true g
        rw [if_pos g5]
        obtain ⟨m0, m1, m2⟩ := hfit.hr g5
        refine ⟨_, rfl, .inl ⟨rfl, _, SqL.of hw6⟩, _, rfl, _, rfl, _, rfl, _, rfl, p, F, own, ⟨dev, n, -1⟩, e.deed, k, _, _, rfl, hF0.keep s09, ih9, Im.mono k09 _ i3, g5, by rw [hfit.ar (by omega), g5]; rfl, m0, m1, m2, fun a10 H10 s10 n10 i10 => ?_⟩
        obtain ⟨x6, x10, g6, g10, l6, l10, i11⟩ := (hB9.keep s10).app i10
        have hl3 := hearM_len F ⟨dev, n, -1⟩ e.deed k
        refine ⟨_, _, _, _, rfl, rfl, g6, g10, by rw [l6, l10, List.length_map, List.length_map, List.length_cons]; exact sizes (by omega), rfl, fun b o hb => ?_, ?_⟩
        · rw [upd_ne (ne_of_none hb nb)]
          exact s10 _ _ (s09 _ _ hb)
        · rw [List.map_append]
          exact i11
      · have g5 : e.deed.place ≠ 5 := fun h => g (decide_eq_true h)
        rw [if_neg g5]
        refine ⟨rfl, s09, ?_⟩
        rw [List.append_nil]
        exact hB9
  rintro σ H10 ⟨rfl, s10, hB10⟩
  refine ⟨_, rfl, _, rfl, _, rfl, _, rfl, p, ra, hl, F, own, dev, n, e, hs, k, _, rfl, hF0.keep s10, h100, (TupK.of s10).sq hra, Im.mono (.of s10) _ hv0, hhl.keep s10, hfit, fun a7 H11 s11 n7 hH => ⟨(by show 2 ≤ sizeLine; decide), fun t nt => ?_⟩⟩
  have st := same_upd (o := .tup [V.ref a6, V.ref a7]) nt
  have nbh : a6 ≠ a7 := by
    obtain ⟨_, x, _⟩ := id hB10
    exact ne_of_none x n7
  exact q t a6 a7 _ (s10.trans (s11.trans st)) nb (s10.free n7) nbh (SqT.of upd_same) ((hB10.keep s11).keep st) (hH.keep st)
def sp_heard_kind (K : PySem.W.Frag) (CF : Addr) : Sp := fun vs H Q _ => ∃ (p v : Addr) (F : Fm) (own : List Addr) (vw : List (List Ev)) (d : Dd) (x : V), vs = [.ref p, .ref v, x] ∧ FrI K CF H p F own ∧ VwI K H v vw ∧ Im K H (ddP d) x ∧ d.place < 9 ∧ (d.place ≠ 8 → d.nums.length = arity d.place) ∧ (d.place = 5 → HeFit F vw d) ∧ Q (hiV (heardM F vw d)) H
set_option maxHeartbeats 1000000 in
theorem ok_heard_kind {f : Addr} {fd : FuncData} {CF : Addr} (TF : Ck_Frame K mg CF) (D : Df K mg "heard_kind" s_heard_kind ["frame", "view", "deed"] f fd) (T : Txt K mg) : FnOk P w K mg base CX0 1 f fd ["frame", "view", "deed"] (sp_heard_kind K CF) := by
  refine D.F.ok sc_heard_kind (fun vs H Q E h => ?_) (fun cdv A outer s H vs Q E hr h => ?_)
  · obtain ⟨p, v, F, own, vw, d, x, rfl, _⟩ := h
    rfl
  obtain ⟨p, v, F, own, vw, d, x, rfl, hF, hV, hd, h9, har, h5, q⟩ := h
  refine ⟨_, (pss_cons (ps_if (pt_cmpR op_ne (pe_ix ix_tup (pv 2) pe_int (fun _ _ => rfl)) pe_str (nomark _))
      (pss_one (ps_ret pe_non))
      pss_nil)
    (C8.pss_cut (ps_set (i := 3) sc_heard_kind.nd rfl (Or.inl rfl) (pe_ix ix_tup (pe_ix ix_list (pe_fld (pv 0) rfl) (pe_ix ix_tup (pv 2) pe_int (fun _ _ => rfl)) (fun _ _ => rfl)) pe_int (fun _ _ => rfl)))
    (C8.pss_cut (ps_set (i := 4) sc_heard_kind.nd rfl (Or.inl rfl) (pe_ix ix_tup (pe_ix ix_list (pe_ix ix_list (pv 1) (pv 3) (fun _ _ => rfl)) (pe_ix ix_tup (pv 2) pe_int (fun _ _ => rfl)) (fun _ _ => rfl)) pe_int (fun _ _ => rfl)))
    (pss_one (ps_ret (pe_ifExp (pt_cmpR op_eq (pe_ix ix_tup (pv 4) pe_int (fun _ _ => rfl)) pe_str (nomark _)) (pe_ix ix_tup (pv 4) pe_int (fun _ _ => rfl)) pe_non)))))), ?_⟩
  obtain ⟨dx, d_, c_, l_, s_, _, hp, _, _, ⟨ls, hls, hI⟩, _⟩ := hF
  obtain ⟨da, z, rest, rfl, hz, hdt, hrest⟩ := Im.undd h9 hd
  unfold heardM at q
  refine ⟨_, rfl, _, _, _, _, rfl, rfl, hdt, at_of (j := 0) rfl rfl, rfl, _, rfl, ?_⟩
  rw [dn_is hz (show deedNames[5]? = some (Str.ofString "hear") from rfl)]
  by_cases e5 : d.place = 5
  · rw [if_pos e5] at q
    rw [decide_eq_true e5]
    refine iteF ?_
    have hl2 := har (by omega)
    rw [e5] at hl2
    obtain ⟨li, nu, hn⟩ := two_of hl2
    rcases hrest with ⟨e8, _⟩ | ⟨_, rfl⟩
    · exact absurd (e5.symm.trans e8) (by decide)
    obtain ⟨l0, l1, s0, s1, n0, n1, wp, war⟩ := h5 e5
    unfold wordOf at q wp war
    rw [hn] at hdt l0 l1 s0 s1 n0 n1 q wp war
    simp only [List.getD_cons_zero, List.getD_cons_succ] at l0 l1 s0 s1 n0 n1 q wp war
    obtain ⟨ca, ta, ws, hca, hct, htt, hks⟩ := lk_at hI l0 l1
    obtain ⟨rows, hv, hE⟩ := hV
    have hrl := hE.1
    have ri : (lkOf F li).s.toNat < rows.length := by omega
    have hrow := hE.2 _ _ _ (List.getElem?_eq_getElem ri) (getD_at (d := []) s0 s1)
    obtain ⟨es, hes, hEs⟩ := hrow
    obtain ⟨dd, ev, g1, g2, g3⟩ := list_at hEs n0 (by rw [List.length_map]; exact n1)
    obtain ⟨e, he, rfl⟩ := map_get g1
    have ee := getD_at (d := dfE) n0 n1
    rw [he] at ee
    have ee := Option.some.inj ee
    subst ee
    obtain ⟨ea, e1, e2, ed, e3, rfl, het, _, _, i3, _⟩ := Im.unev g3
    obtain ⟨wa, w, wrest, rfl, hw, hwt, hwrest⟩ := Im.undd wp i3
    refine ⟨fun σ H' => σ = [some (.ref p), some (.ref v), some (.ref da), some (.int (lkOf F li).s), none] ∧ H = H', ?_, ?_⟩
    · exact ⟨_, rfl, p, CF, dx, _, _, rfl, hp, TF.cl, TF.n_links, lk_Frame_links, _, rfl, _, _, _, _, rfl, rfl, hdt, at_of (j := 1) rfl rfl, _, _, _, _, rfl, rfl, SqL.of hls, hca, _, _, _, _, rfl, rfl, hct, at_of (j := 1) rfl rfl, rfl, rfl⟩
    rintro σ H' ⟨rfl, rfl⟩
    refine ⟨fun σ H' => σ = [some (.ref p), some (.ref v), some (.ref da), some (.int (lkOf F li).s), some (.ref wa)] ∧ H = H', ?_, ?_⟩
    · exact ⟨_, rfl, _, rfl, _, _, _, _, rfl, rfl, SqL.of hv, at_of (j := (lkOf F li).s.toNat) (by omega) (by rw [List.getElem?_map, List.getElem?_eq_getElem ri]; rfl), _, rfl, _, _, _, _, rfl, rfl, hdt, at_of (j := 2) rfl rfl, _, _, _, _, rfl, rfl, SqL.of hes, g2, _, _, _, _, rfl, rfl, het, at_of (j := 3) rfl rfl, rfl, rfl⟩
    rintro σ H' ⟨rfl, rfl⟩
    refine ⟨_, rfl, _, _, _, _, rfl, rfl, hwt, at_of (j := 0) rfl rfl, rfl, _, rfl, ?_⟩
    rw [dn_is hw (show deedNames[3]? = some (Str.ofString "send") from rfl)]
    refine ite2 (fun g => ?_) (fun g => ?_)
    · have g3 := of_decide_eq_true g
      rw [if_pos g3] at q
      obtain ⟨x, y, hxy⟩ := two_of (war g3)
      rcases hwrest with ⟨e8, _⟩ | ⟨_, rfl⟩
      · exact absurd (g3.symm.trans e8) (by decide)
      rw [hxy] at hwt q
      exact ⟨_, rfl, _, _, _, _, rfl, rfl, hwt, at_of (j := 2) rfl rfl, q⟩
    · rw [if_neg (fun h => g (decide_eq_true h))] at q
      exact q
  · rw [if_neg e5] at q
    rw [decide_eq_false e5]
    exact iteT q
def sp_view_bounds (K : PySem.W.Frag) (CF : Addr) : Sp := fun vs H Q _ => ∃ (p v : Addr) (F : Fm) (own : List Addr) (vw : List (List Ev)), vs = [.ref p, .ref v] ∧ FrI K CF H p F own ∧ VwI K H v vw ∧ VwFit F vw ∧
  ∀ (b : Addr) (H' : Hp), Same H H' → H b = none → LsI K H' b ((vwB F vw).map bdP) → Q (.ref b) H'
set_option maxHeartbeats 2000000 in
theorem ok_view_bounds {f : Addr} {fd : FuncData} {CF : Addr} (TF : Ck_Frame K mg CF) (D : Df K mg "view_bounds" s_view_bounds ["frame", "view"] f fd) (T : Txt K mg) {f_first_hands : Addr} {fd_first_hands : FuncData} (D_first_hands : Df K mg "first_hands" s_first_hands ["frame", "device"] f_first_hands fd_first_hands) (G_first_hands : FnOk P w K mg base CX0 2 f_first_hands fd_first_hands ["frame", "device"] (sp_first_hands K CF)) {f_event_bounds : Addr} {fd_event_bounds : FuncData} (D_event_bounds : Df K mg "event_bounds" s_event_bounds ["frame", "record", "hands", "kind"] f_event_bounds fd_event_bounds) (G_event_bounds : FnOk P w K mg base CX0 4 f_event_bounds fd_event_bounds ["frame", "record", "hands", "kind"] (sp_event_bounds K CF)) {f_heard_kind : Addr} {fd_heard_kind : FuncData} (D_heard_kind : Df K mg "heard_kind" s_heard_kind ["frame", "view", "deed"] f_heard_kind fd_heard_kind) (G_heard_kind : FnOk P w K mg base CX0 1 f_heard_kind fd_heard_kind ["frame", "view", "deed"] (sp_heard_kind K CF)) : FnOk P w K mg base CX0 5 f fd ["frame", "view"] (sp_view_bounds K CF) := by
  refine D.F.ok sc_view_bounds (fun vs H Q E h => ?_) (fun cdv A outer s H vs Q E hr h => ?_)
  · obtain ⟨p, v, F, own, vw, rfl, _⟩ := h
    rfl
  obtain ⟨p, v, F, own, vw, rfl, hF, hV, hfit, q⟩ := h
  refine ⟨_, (pss_cons (ps_set (i := 2) sc_view_bounds.nd rfl (Or.inl rfl) (pe_lst pa_nil))
    (pss_cons (ps_for PassesOwn.never rfl (pi_enum rfl T.enumerate (pa_cons (pv 1) pa_nil)) (pg_tup rfl (pgs_cons (pg_name (i := 3) sc_view_bounds.nd rfl (Or.inl rfl)) (pgs_cons (pg_name (i := 4) sc_view_bounds.nd rfl (Or.inl rfl)) pgs_nil)))
      (C8.pss_cut (ps_set (i := 5) sc_view_bounds.nd rfl (Or.inl rfl) (pe_call G_first_hands (hr.mono (by decide)) rfl D_first_hands.m D_first_hands.F.kp D_first_hands.b .nil pass0 (pa_cons (pv 0) (pa_cons (pv 3) pa_nil))))
    (pss_one (ps_for PassesOwn.never rfl (pi_range2 rfl T.range (pa_cons pe_int (pa_cons (pe_callB call_len_seq rfl T.len PySem.boot_len (pa_cons (pv 4) pa_nil)) pa_nil))) (pg_name (i := 6) sc_view_bounds.nd rfl (Or.inl rfl))
      (C8.pss_cut (ps_set (i := 7) sc_view_bounds.nd rfl (Or.inl rfl) (pe_call G_heard_kind (hr.mono (by decide)) rfl D_heard_kind.m D_heard_kind.F.kp D_heard_kind.b .nil pass0 (pa_cons (pv 0) (pa_cons (pv 1) (pa_cons (pe_ix ix_tup (pe_ix ix_list (pv 4) (pv 6) (fun _ _ => rfl)) pe_int (fun _ _ => rfl)) pa_nil)))))
    (C8.pss_cut (ps_asg (pe_call G_event_bounds (hr.mono (by decide)) rfl D_event_bounds.m D_event_bounds.F.kp D_event_bounds.b .nil pass0 (pa_cons (pv 0) (pa_cons (pe_tup (pa_cons (pv 3) (pa_cons (pv 6) (pa_cons (pe_ix ix_list (pv 4) (pv 6) (fun _ _ => rfl)) pa_nil)))) (pa_cons (pv 5) (pa_cons (pv 7) pa_nil))))) (pg_tup rfl (pgs_cons (pg_name (i := 8) sc_view_bounds.nd rfl (Or.inl rfl)) (pgs_cons (pg_name (i := 5) sc_view_bounds.nd rfl (Or.inl rfl)) pgs_nil))))
    (pss_one (ps_expr (pe_bm PySem.F.plainAttrs_list PySem.F.slot_list_extend PySem.F.type_list_extend mt_extend (pv 2) (pa_cons (pv 8) pa_nil))))))))))
    (pss_one (ps_ret (pv 2))))), ?_⟩
  have hV0 := hV
  obtain ⟨rows, hv, hE⟩ := hV
  have hrl := hE.1
  refine ⟨(by show 0 ≤ sizeLine; decide), fun a1 n1 => ?_⟩
  generalize e1 : upd H a1 _ = H1
  obtain ⟨s1, h1⟩ := fr e1 n1
  clear e1
  refine ⟨_, rfl, _, _, rfl, SqL.of (s1 _ _ hv), for_it (walk_enum (K := K) (a := v) (xs := rows.map V.ref)) (fun i σ H' => ∃ v3 v4 v5 v6 v7 v8, σ = [some (.ref p), some (.ref v), some (.ref a1), v3, v4, v5, v6, v7, v8] ∧ Same H H' ∧ LsI K H' a1 (((List.range i).flatMap fun d => (devS F vw d ((vw.getD d []).length - 1)).1).map bdP))
    ⟨none, none, none, none, none, none, rfl, s1, _, h1, ImL.nil_⟩ (fun i σ H' _ ⟨_, _, _, _, _, _, _, s, _⟩ => SqL.of (s _ _ hv)) ?_ ?_⟩
  · rintro d x σ H2 H3 hi ⟨v3, v4, v5, v6, v7, v8, rfl, s2, hB2⟩ ⟨T, x1, x2, rfl, nT, rfl, hx1, hx2⟩
    cases hx1
    rw [List.length_map] at hi
    have hx2 : (rows.map V.ref)[d]? = some x2 := hx2
    obtain ⟨_, rfl⟩ := ref_get hx2
    have hd : d < vw.length := by omega
    obtain ⟨es, hes, hEs⟩ := hE.2 d _ _ (List.getElem?_eq_getElem hi) (getD_ix (d := []) hd)
    obtain ⟨sT, hT⟩ := fr (rfl : upd H2 T (.tup [.int (d : Nat), .ref rows[d]]) = _) nT
    generalize upd H2 T (.tup [.int (d : Nat), .ref rows[d]]) = H3 at *
    have s3 := s2.trans sT
    have hB3 := hB2.keep sT
    have hesl : es.length = (vw.getD d []).length := by rw [hEs.len, List.length_map]
    refine ⟨T, _, rfl, SqT.of hT, rfl, _, _, rfl, _, _, rfl, rfl, ?_⟩
    refine ⟨fun σ H' => ∃ h, σ = [some (.ref p), some (.ref v), some (.ref a1), some (.int (d : Nat)), some (.ref rows[d]), some (.ref h), v6, v7, v8] ∧ Same H H' ∧ h ≠ a1 ∧ LsI K H' a1 (((List.range d).flatMap fun d => (devS F vw d ((vw.getD d []).length - 1)).1).map bdP) ∧ LsI K H' h ((devS F vw d 0).2.map hdP), ?_, ?_⟩
    · refine ⟨_, rfl, _, rfl, p, F, own, (d : Nat), rfl, hF.keep s3, Nat.le_trans hfit.cl (by decide), fun l H4 s4 n4 h4 => ⟨l, rfl, s3.trans s4, ?_, hB3.keep s4, h4⟩⟩
      obtain ⟨_, z, _⟩ := id hB3
      exact (ne_of_none z n4).symm
    rintro σ H4 ⟨h, rfl, s4, nh, hB4, hH4⟩
    have hpre := vwN_len hfit d
    have hvl := hfit.vl
    have hel := hfit.el d
    refine ⟨_, rfl, _, _, rfl, .inl (SqL.of (s4 _ _ hes)), _, _, rfl, ⟨by omega, by omega, by omega, by omega⟩, for_range (lo := 1) (n := ((es.length : Int) - 1).toNat) (fun j σ H' => ∃ h v6 v7 v8, σ = [some (.ref p), some (.ref v), some (.ref a1), some (.int (d : Nat)), some (.ref rows[d]), some (.ref h), v6, v7, v8] ∧ Same H H' ∧ h ≠ a1 ∧ LsI K H' a1 ((((List.range d).flatMap fun d => (devS F vw d ((vw.getD d []).length - 1)).1) ++ (devS F vw d j).1).map bdP) ∧ LsI K H' h ((devS F vw d j).2.map hdP)) ⟨h, _, _, _, rfl, s4, nh, by rw [show (devS F vw d 0).1 = [] from rfl, List.append_nil]; exact hB4, hH4⟩ ?_ ?_⟩
    · clear hB4 hH4 nh s4 hB3 hB2 s2 s3 hT sT
      rintro j σ H5 hj ⟨h, v6, v7, v8, rfl, s5, nh, hB5, hH5⟩
      have hj1 : j + 1 < (vw.getD d []).length := by omega
      have k5 := TupK.of s5
      obtain ⟨dd, ev, g1, g2, g3⟩ := list_at (j := (1 : Int) + (j : Int)) hEs (by omega) (by rw [List.length_map]; omega)
      obtain ⟨e, he, rfl⟩ := map_get g1
      have ee := getD_ix (d := dfE) hj1
      rw [show ((1 : Int) + (j : Int)).toNat = j + 1 from by omega] at he
      rw [he] at ee
      have ee := Option.some.inj ee
      have hfe := hfit.fit d j hd hj1
      have hpe := hfit.pl d j hd hj1
      have hhe := hfit.he d j hd hj1
      rw [← ee] at hfe hpe hhe
      obtain ⟨ea, e1, e2, ed, e3, rfl, het, _, _, i3, _⟩ := Im.unev g3
      have s05 := s5
      have e1j : ((j : Int) + 1) = 1 + (j : Int) := by omega
      refine ⟨fun σ H' => σ = [some (.ref p), some (.ref v), some (.ref a1), some (.int (d : Nat)), some (.ref rows[d]), some (.ref h), some (.int (1 + (j : Int))), some (hiV (heardM F vw e.deed)), v8] ∧ H5 = H', ?_, ?_⟩
      · exact ⟨_, rfl, _, rfl, _, rfl, _, rfl, _, _, _, _, rfl, rfl, SqL.of (s5 _ _ hes), g2, _, _, _, _, rfl, rfl, k5.sq het, at_of (j := 3) rfl rfl, p, v, F, own, vw, e.deed, _, rfl, hF.keep s5, hV0.keep s5, Im.mono k5 _ i3, hpe, hfe.ar, hhe, rfl, rfl⟩
      rintro σ H' ⟨rfl, rfl⟩
      refine ⟨fun σ H' => ∃ (h2 m : Addr), σ = [some (.ref p), some (.ref v), some (.ref a1), some (.int (d : Nat)), some (.ref rows[d]), some (.ref h2), some (.int (1 + (j : Int))), some (hiV (heardM F vw e.deed)), some (.ref m)] ∧ Same H5 H' ∧ h2 ≠ a1 ∧ LsI K H' m ((evB F d ((j : Int) + 1) e (devS F vw d j).2 (heardM F vw e.deed)).map bdP) ∧ LsI K H' h2 ((evH F d ((j : Int) + 1) e (devS F vw d j).2).map hdP), ?_, ?_⟩
      · refine ⟨_, rfl, _, rfl, _, rfl, _, rfl, _, rfl, _, _, _, _, rfl, rfl, SqL.of (s5 _ _ hes), g2, (by show 3 ≤ sizeLine; decide), fun a6 n6 => ?_⟩
        generalize e6 : upd H5 a6 _ = H6
        obtain ⟨s6, h6⟩ := fr e6 n6
        clear e6
        have s06 := s5.trans s6
        refine ⟨_, rfl, _, rfl, p, a6, h, F, own, (d : Nat), 1 + (j : Int), e, (devS F vw d j).2, heardM F vw e.deed, _, rfl, hF.keep s06, Nat.le_trans hfit.cl (by decide), SqT.of h6, Im.mono (.of s06) _ g3, hH5.keep s6, hfe, fun t b h2 H7 s7 nb nh2 nbh ht hb hh => ?_⟩
        refine ⟨_, _, rfl, ht, rfl, _, _, rfl, _, _, rfl, rfl, h2, b, rfl, s6.trans s7, ?_, ?_, ?_⟩
        · obtain ⟨_, z, _⟩ := id (hB5.keep s6)
          exact (ne_of_none z nh2).symm
        · rw [e1j]
          exact hb
        · rw [e1j]
          exact hh
      rintro σ H6 ⟨h2, m, rfl, s6, nh2, hm, hh2⟩
      obtain ⟨w1, w2, g11, g12, l11, l12, hL⟩ := (hB5.keep s6).app hm
      have hd1 := devS_len hfit.cl vw d j
      have hd2 := evB_len hfit.cl (d : Nat) ((j : Int) + 1) e (devS F vw d j).2 (heardM F vw e.deed)
      rw [List.length_map, List.length_append] at l11
      rw [List.length_map] at l12
      refine ⟨_, rfl, .inl ⟨rfl, _, SqL.of g11⟩, _, rfl, _, _, _, _, rfl, rfl, g11, g12, by rw [l11, l12]; exact sizes (by omega), ?_⟩
      refine ⟨h2, _, _, _, rfl, fun b o hb => ?_, nh2, ?_, ?_⟩
      · rw [upd_ne (ne_of_none hb n1)]
        exact s6 _ _ (s5 _ _ hb)
      · rw [← List.map_append, List.append_assoc] at hL
        rw [devS, ← ee]
        exact hL
      · rw [devS, ← ee]
        exact hh2.but But.set g11 nh2
    · rintro σ H5 ⟨h, v6, v7, v8, rfl, s5, nh, hB5, hH5⟩
      rw [show ((es.length : Int) - 1).toNat = (vw.getD d []).length - 1 from by omega] at hB5
      refine ⟨_, _, _, _, _, _, rfl, s5, ?_⟩
      rw [rangeB]
      exact hB5
  rintro σ H2 ⟨v3, v4, v5, v6, v7, v8, rfl, s2, hB2⟩
  rw [List.length_map, hrl] at hB2
  exact ⟨_, rfl, q a1 H2 s2 n1 hB2⟩
def sp__law_draws (K : PySem.W.Frag) : Sp := fun vs H Q _ => ∃ (a : Addr) (ns : List Int) (c : Int), vs = [.ref a, .int c] ∧ SqL K H a (ns.map V.int) ∧ 0 ≤ c ∧ c ≤ 100 ∧ ∀ (p : Addr) (H' : Hp) (rs : List Int), Same H H' → H p = none → H' p = some (.lst (rs.map V.int)) → rs.length = c.toNat → Q (.ref p) H'
theorem ok__law_draws {f : Addr} {fd : FuncData} (D : Df K mg "_law_draws" s__law_draws ["script", "count"] f fd) (T : Txt K mg) : FnOk P w K mg base CX0 1 f fd ["script", "count"] (sp__law_draws K) := by
  refine D.F.ok sc__law_draws (fun vs H Q E h => ?_) (fun cdv A outer s H vs Q E hr h => ?_)
  · obtain ⟨a, ns, c, rfl, _⟩ := h
    rfl
  obtain ⟨a, ns, c, rfl, hS, h0, h1, q⟩ := h
  refine ⟨_, (pss_cons (ps_set (i := 2) sc__law_draws.nd rfl (Or.inl rfl) (pe_lst pa_nil))
    (pss_cons (ps_for PassesOwn.never rfl (pi_range1 rfl T.range (pa_cons (pv 1) pa_nil)) (pg_name (i := 3) sc__law_draws.nd rfl (Or.inl rfl))
      (pss_cons (ps_set (i := 4) sc__law_draws.nd rfl (Or.inl rfl) pe_int)
    (C8.pss_cut (ps_if (pt_cmpR op_lt (pv 3) (pe_callB call_len_seq rfl T.len PySem.boot_len (pa_cons (pv 0) pa_nil)) (nomark _))
      (pss_one (ps_set (i := 4) sc__law_draws.nd rfl (Or.inl rfl) (pe_callTy call_int1 rfl T.int (by decide +kernel) (pa_cons (pe_ix ix_list (pv 0) (pv 3) (fun _ _ => rfl)) pa_nil))))
      pss_nil)
    (C8.pss_cut (ps_if (pt_cmpR op_lt (pv 4) pe_int (nomark _))
      (pss_one (ps_set (i := 4) sc__law_draws.nd rfl (Or.inl rfl) (pe_op op_sub pe_int (pe_op op_mul pe_int (pv 4)))))
      pss_nil)
    (C8.pss_cut (ps_if (pt_cmpR op_lt (pv 4) pe_int (nomark _))
      (pss_cons (ps_set (i := 4) sc__law_draws.nd rfl (Or.inl rfl) (pe_op op_mod (pe_callTy call_int1 rfl T.int (by decide +kernel) (pa_cons (pe_op op_add (pe_op op_mul (pe_op op_add (pe_op op_add (pv 4) (pe_op op_mul pe_int (pv 3))) pe_int) pe_int) (pe_op op_mul (pe_op op_mul (pv 3) (pv 3)) pe_int)) pa_nil)) pe_int))
    (pss_one (ps_set (i := 4) sc__law_draws.nd rfl (Or.inl rfl) (pe_op op_mod (pe_callTy call_int1 rfl T.int (by decide +kernel) (pa_cons (pe_op op_add (pe_op op_mul (pv 4) pe_int) pe_int) pa_nil)) pe_int))))
      pss_nil)
    (pss_one (ps_expr (pe_bm PySem.F.plainAttrs_list PySem.F.slot_list_append PySem.F.type_list_append mt_append (pv 2) (pa_cons (pv 4) pa_nil)))))))))
    (pss_one (ps_ret (pv 2))))), ?_⟩
  refine ⟨(by show 0 ≤ sizeLine; decide), fun p hp => ?_⟩
  refine ⟨_, rfl, _, rfl, by omega, by omega, for_range (lo := 0) (n := c.toNat) (fun i σ H' => ∃ k v, ∃ rs : List Int, σ = [some (.ref a), some (.int c), some (.ref p), k, v] ∧ Same H H' ∧ H' p = some (.lst (rs.map V.int)) ∧ rs.length = i) ⟨none, none, [], rfl, same_upd hp, upd_same, rfl⟩ ?_ ?_⟩
  · rintro i σ H' hi ⟨k, v, rs, rfl, sm, ep, hl⟩
    have hi' : i ≤ 100 := by omega
    refine ⟨fun σ H2 => ∃ c2 : Int, σ = [some (.ref a), some (.int c), some (.ref p), some (.int (0 + (i : Int))), some (.int c2)] ∧ H2 = H', ?_, ?_⟩
    · refine ⟨_, rfl, _, rfl, _, _, rfl, .inl (sm.seq hS), _, _, rfl, rfl, _, rfl, ite2 (fun c' => ?_) (fun c' => ⟨_, rfl, rfl⟩)⟩
      have c2 := of_decide_eq_true c'
      rw [List.length_map] at c2
      exact ⟨_, rfl, _, rfl, _, _, _, _, rfl, rfl, sm.seq hS, at_of (j := i) (v := V.int (ns[i]'(by omega))) (by omega) (by rw [List.getElem?_map, List.getElem?_eq_getElem (by omega)]; rfl), .inl ⟨_, rfl, _, rfl, rfl⟩⟩
    rintro σ H2 ⟨c2, rfl, rfl⟩
    refine ⟨fun σ H3 => ∃ c2 : Int, σ = [some (.ref a), some (.int c), some (.ref p), some (.int (0 + (i : Int))), some (.int c2)] ∧ H3 = H2, ?_, ?_⟩
    · refine ⟨_, rfl, _, _, rfl, rfl, _, rfl, ite2 (fun c' => ?_) (fun c' => ⟨_, rfl, rfl⟩)⟩
      exact ⟨_, rfl, _, _, rfl, rfl, (.inl (by decide)), _, _, rfl, rfl, _, rfl, rfl⟩
    rintro σ H3 ⟨c3, rfl, rfl⟩
    refine ⟨fun σ H4 => ∃ c2 : Int, σ = [some (.ref a), some (.int c), some (.ref p), some (.int (0 + (i : Int))), some (.int c2)] ∧ H4 = H3, ?_, ?_⟩
    · refine ⟨_, rfl, _, _, rfl, rfl, _, rfl, ite2 (fun c' => ?_) (fun c' => ⟨_, rfl, rfl⟩)⟩
      refine ⟨_, rfl, _, rfl, _, _, rfl, rfl, (.inl (by decide)), _, _, rfl, rfl, _, _, rfl, rfl, _, _, rfl, rfl, (.inr (by decide)), _, rfl, _, rfl, _, _, rfl, rfl, (.inl ⟨by omega, by omega⟩), _, _, rfl, rfl, (.inr (by decide)), _, _, rfl, rfl, .inl ⟨_, rfl, _, _, rfl, rfl, (posJ rfl), ?_⟩⟩
      exact ⟨_, rfl, _, _, rfl, rfl, (.inr (by decide)), _, _, rfl, rfl, .inl ⟨_, rfl, _, _, rfl, rfl, (posJ rfl), _, rfl, rfl⟩⟩
    rintro σ H4 ⟨c4, rfl, rfl⟩
    refine ⟨_, rfl, .inl ⟨rfl, _, SqL.of ep⟩, _, rfl, _, _, _, rfl, rfl, ep, by rw [List.length_map, hl]; exact sizes' (by omega), ?_⟩
    refine ⟨_, _, rs ++ [c4], rfl, fun b u h => ?_, by rw [upd_same, List.map_append]; rfl, by rw [List.length_append, List.length_singleton, hl]⟩
    rw [upd_ne (ne_of_none h hp)]
    exact sm _ _ h
  · rintro σ H' ⟨k, v, rs, rfl, sm, ep, hl⟩
    exact ⟨_, rfl, q p H' rs sm hp ep hl⟩
def sp__law_take (K : PySem.W.Frag) : Sp := fun vs H Q _ => ∃ (r : Addr) (at_ m : Int) (n : Nat), vs = [.ref r, .int at_, .int m] ∧ RwAt H r n ∧ 0 ≤ at_ ∧ at_ < n ∧ 0 < m ∧ m ≤ 10 ^ 15 ∧ ∀ (g : Int) (H' : Hp), 0 ≤ g → g < m → But r H H' → RwAt H' r n → Q (.int g) H'
theorem ok__law_take {f : Addr} {fd : FuncData} (D : Df K mg "_law_take" s__law_take ["rows", "at", "many"] f fd) (T : Txt K mg) : FnOk P w K mg base CX0 1 f fd ["rows", "at", "many"] (sp__law_take K) := by
  refine D.F.ok sc__law_take (fun vs H Q E h => ?_) (fun cdv A outer s H vs Q E hr h => ?_)
  · obtain ⟨r, at_, m, n, rfl, _⟩ := h
    rfl
  obtain ⟨r, at_, m, n, rfl, ⟨ns, hr1, hl⟩, h0, h1, hm, hm2, q⟩ := h
  refine ⟨_, (pss_cons (ps_set (i := 3) sc__law_take.nd rfl (Or.inl rfl) (pe_op op_modN (pe_callTy call_int1 rfl T.int (by decide +kernel) (pa_cons (pe_ix ix_list (pv 0) (pv 1) (fun _ _ => rfl)) pa_nil)) (pv 2)))
    (pss_cons (ps_asg (pe_op op_fdivW (pe_callTy call_int1 rfl T.int (by decide +kernel) (pa_cons (pe_ix ix_list (pv 0) (pv 1) (fun _ _ => rfl)) pa_nil)) (pv 2)) (pg_sub (pv 0) (pv 1) set_list))
    (pss_one (ps_ret (pv 3))))), ?_⟩
  obtain ⟨j, rfl⟩ : ∃ j : Nat, at_ = (j : Int) := ⟨at_.toNat, by omega⟩
  have hj : j < ns.length := by omega
  have hat : atI (ns.map V.int) (j : Int) = some (.int ns[j]) := at_of (j := j) rfl (by rw [List.getElem?_map, List.getElem?_eq_getElem hj]; rfl)
  refine ⟨_, rfl, _, rfl, _, _, _, _, rfl, rfl, SqL.of hr1, hat, .inl ⟨_, rfl, _, rfl, _, _, rfl, rfl, by omega, ?_⟩⟩
  refine ⟨_, rfl, _, rfl, _, _, _, _, rfl, rfl, SqL.of hr1, hat, .inl ⟨_, rfl, _, rfl, _, _, rfl, rfl, wide_div (b := 60) hm (by omega) (by decide) (by decide), _, rfl, _, rfl, _, _, _, j, rfl, rfl, hr1, ixn (by rw [List.length_map]; exact hj), ?_⟩⟩
  refine ⟨_, rfl, q _ _ (Int.fmod_nonneg_of_pos _ hm) (Int.fmod_lt_of_pos _ hm) But.set ⟨ns.set j (ns[j] / m), ?_, by rw [List.length_set]; exact hl⟩⟩
  rw [upd_same, List.map_set]
/-- kinds of a clock as law 24 draws them -/
structure Ks24 (ks : List Kd) : Prop where
  len : ks.length = 2
  ks : ∀ k ∈ ks, ∃ h, k.high = some h ∧ 1 ≤ k.low ∧ k.low ≤ h ∧ h ≤ 13
theorem Wd.cs {K : PySem.W.Frag} {H : Hp} {r : Addr} {n : Nat} {ls : List (Addr × List PyData)} {is : List (Addr × HO)} {cl : Addr} {ns ns' : List Int} {ws : List V} (w : Wd K H r n ((cl, ns.map PyData.int) :: ls) is) (h : ws = ns'.map V.int) : Wd K (upd H cl (.lst ws)) r n ((cl, ns'.map PyData.int) :: ls) is := by
  subst h
  exact w.put (i := 0) (ds' := ns'.map PyData.int) rfl ImL.ints
theorem Ks24.at {ks : List Kd} (h : Ks24 ks) {k : Int} (h6 : Six ks k) : ∃ hi, (kdOf ks k).high = some hi ∧ hiK ks k = hi ∧ 1 ≤ loK ks k ∧ loK ks k ≤ hi ∧ hi ≤ 13 := by
  obtain ⟨x, h1, h2, h3, h4⟩ := h.ks _ (kdOf_mem h6)
  exact ⟨x, h1, by unfold hiK hiOf; rw [h1]; rfl, h2, h3, h4⟩
def sp__law_kinds (K : PySem.W.Frag) : Sp := fun vs H Q _ => ∃ (r : Addr) (at_ : Int) (n : Nat), vs = [.ref r, .int at_] ∧ RwAt H r n ∧ 0 ≤ at_ ∧ at_ < n ∧ ∀ (t : Addr) (H' : Hp) (ks : List Kd), But r H H' → RwAt H' r n → Im K H' (ksP ks) (.ref t) → Ks24 ks → Q (.ref t) H'
set_option maxHeartbeats 1000000 in
theorem ok__law_kinds {f : Addr} {fd : FuncData} (D : Df K mg "_law_kinds" s__law_kinds ["rows", "at"] f fd) (T : Txt K mg) {f__law_take : Addr} {fd__law_take : FuncData} (D__law_take : Df K mg "_law_take" s__law_take ["rows", "at", "many"] f__law_take fd__law_take) (G__law_take : FnOk P w K mg base CX0 1 f__law_take fd__law_take ["rows", "at", "many"] (sp__law_take K)) : FnOk P w K mg base CX0 2 f fd ["rows", "at"] (sp__law_kinds K) := by
  refine D.F.ok sc__law_kinds (fun vs H Q E h => ?_) (fun cdv A outer s H vs Q E hr h => ?_)
  · obtain ⟨r, at_, n, rfl, _⟩ := h
    rfl
  obtain ⟨r, at_, n, rfl, hr0, h0, h1, q⟩ := h
  refine ⟨_, (pss_cons (ps_set (i := 2) sc__law_kinds.nd rfl (Or.inl rfl) (pe_lst pa_nil))
    (pss_cons (ps_for PassesOwn.never rfl (pi_range1 rfl T.range (pa_cons pe_int pa_nil)) (pg_name (i := 3) sc__law_kinds.nd rfl (Or.inl rfl))
      (pss_cons (ps_set (i := 4) sc__law_kinds.nd rfl (Or.inl rfl) (pe_op op_add pe_int (pe_call G__law_take (hr.mono (by decide)) rfl D__law_take.m D__law_take.F.kp D__law_take.b .nil pass0 (pa_cons (pv 0) (pa_cons (pv 1) (pa_cons pe_int pa_nil))))))
    (pss_one (ps_expr (pe_bm PySem.F.plainAttrs_list PySem.F.slot_list_append PySem.F.type_list_append mt_append (pv 2) (pa_cons (pe_tup (pa_cons (pe_op op_add_str pe_str (pe_callTy call_str_int rfl T.str (by decide +kernel) (pa_cons (pv 3) pa_nil))) (pa_cons (pv 4) (pa_cons (pe_op op_add (pv 4) (pe_call G__law_take (hr.mono (by decide)) rfl D__law_take.m D__law_take.F.kp D__law_take.b .nil pass0 (pa_cons (pv 0) (pa_cons (pv 1) (pa_cons pe_int pa_nil))))) pa_nil)))) pa_nil))))))
    (pss_one (ps_ret (pe_callTy call_tuple_of rfl T.tuple (by decide +kernel) (pa_cons (pv 2) pa_nil)))))), ?_⟩
  refine ⟨(by show 0 ≤ sizeLine; decide), fun a3 n3 => ?_⟩
  generalize e3 : upd H a3 _ = H3
  obtain ⟨s3, h3⟩ := fr e3 n3
  clear e3
  have w3 : Wd K H3 r n [(a3, [])] [] := (Wd.one hr0).new s3 n3 ⟨_, h3, ImL.nil_⟩
  refine ⟨_, rfl, by decide, by decide, for_range (lo := 0) (n := 2) (fun j σ H' => ∃ v3 v4, ∃ ks : List Kd, σ = [some (.ref r), some (.int at_), some (.ref a3), v3, v4] ∧ But r H H' ∧ Wd K H' r n [(a3, ks.map kdP)] [] ∧ ks.length = j ∧ ∀ k ∈ ks, ∃ h, k.high = some h ∧ 1 ≤ k.low ∧ k.low ≤ h ∧ h ≤ 13) ⟨_, _, [], rfl, But.of s3, w3, rfl, fun k h => by simp at h⟩ ?_ ?_⟩
  · rintro j σ H5 hj ⟨v3, v4, ks, rfl, b5, w5, hkl, hks⟩
    refine ⟨_, rfl, _, rfl, r, _, 6, n, rfl, w5.rows, h0, h1, by decide, by decide, fun e H6 e0 e1 b6 r6 => ⟨_, _, rfl, rfl, ?_⟩⟩
    have w6 := w5.take b6 r6
    obtain ⟨x6, hx6, _⟩ := w6.at 0 rfl
    have hw := word_len (numT (i := j) (by omega))
    refine ⟨_, rfl, .inl ⟨rfl, _, SqL.of hx6⟩, _, rfl, _, rfl, (numT (i := j) (by omega)).log, _, _, rfl, rfl, sizes (by rw [show (Str.ofString "k").length = 1 by decide +kernel]; omega), _, rfl, _, rfl, _, rfl, _, rfl, r, _, 8, n, rfl, w6.rows, h0, h1, by decide, by decide, fun f H7 f0 f1 b7 r7 => ⟨_, _, rfl, rfl, (by show 3 ≤ sizeLine; decide), fun a8 n8 => ?_⟩⟩
    have w7 := w6.take b7 r7
    generalize e8 : upd H7 a8 _ = H8
    obtain ⟨s8, h8⟩ := fr e8 n8
    clear e8
    obtain ⟨x9, g9, l9, w9⟩ := (w7.keep s8).snoc 0 rfl (kdI (k := ⟨_, 1 + e, some (1 + e + f)⟩) (SqT.of h8))
    rw [List.length_map] at l9
    refine ⟨_, _, _, rfl, rfl, g9, by rw [l9]; exact sizes' (by omega), _, _, ks ++ [⟨_, 1 + e, some (1 + e + f)⟩], rfl, (((b5.trans b6).trans b7).trans (But.of s8)).upd n3, by rw [List.map_append]; exact w9, by rw [List.length_append, List.length_singleton, hkl], fun k hk => ?_⟩
    rcases List.mem_append.mp hk with hk | hk
    · exact hks k hk
    · rw [List.mem_singleton.mp hk]
      exact ⟨_, rfl, by show 1 ≤ 1 + e; omega, by show 1 + e ≤ 1 + e + f; omega, by omega⟩
  rintro σ H5 ⟨v3, v4, ks, rfl, b5, w5, hkl, hks⟩
  obtain ⟨y5, hy5, iy5⟩ := w5.at 0 rfl
  refine ⟨_, rfl, _, _, rfl, .inl ⟨SqL.of hy5, fun a6 n6 => ?_⟩⟩
  generalize e6 : upd H5 a6 _ = H6
  obtain ⟨s6, h6⟩ := fr e6 n6
  clear e6
  exact q a6 H6 ks (b5.trans (But.of s6)) (w5.rows.keep s6) (Im.tup_ (SqT.of h6) (ImL.mono (.of s6) _ iy5)) ⟨hkl, hks⟩
def sp__law_run (K : PySem.W.Frag) : Sp := fun vs H Q _ => ∃ (cl r kt : Addr) (n : Nat) (ls : List (Addr × List PyData)) (is : List (Addr × HO)) (c : Cs) (ks : List Kd) (a : Int), vs = [.ref cl, .ref r, .int a, .ref kt] ∧ Wd K H r n ((cl, c.ns.map PyData.int) :: ls) is ∧ Im K H (ksP ks) (.ref kt) ∧ Ks24 ks ∧ CsOk ks c ∧ 0 ≤ a ∧ a ≤ 200 ∧ 59 ≤ n ∧
  ∀ (v : V) (H' : Hp) (d : Cs), Wd K H' r n ((cl, d.ns.map PyData.int) :: ls) is → TupK H H' → Ran ks c d a → Q v H'
set_option maxHeartbeats 2000000 in
theorem ok__law_run {f : Addr} {fd : FuncData} (D : Df K mg "_law_run" s__law_run ["clock", "rows", "amount", "kinds"] f fd) (T : Txt K mg) {f__law_take : Addr} {fd__law_take : FuncData} (D__law_take : Df K mg "_law_take" s__law_take ["rows", "at", "many"] f__law_take fd__law_take) (G__law_take : FnOk P w K mg base CX0 1 f__law_take fd__law_take ["rows", "at", "many"] (sp__law_take K)) : FnOk P w K mg base CX0 2 f fd ["clock", "rows", "amount", "kinds"] (sp__law_run K) := by
  refine D.F.ok sc__law_run (fun vs H Q E h => ?_) (fun cdv A outer s H vs Q E hr h => ?_)
  · obtain ⟨cl, r, kt, n, ls, is, c, ks, a, rfl, _⟩ := h
    rfl
  obtain ⟨cl, r, kt, n, ls, is, c, ks, a, rfl, w0, ik, hks, ok, ha0, ha1, hn, q⟩ := h
  refine ⟨_, (pss_cons (ps_set (i := 4) sc__law_run.nd rfl (Or.inl rfl) (pv 2))
    (pss_cons (ps_for PassesOwn.never rfl (pi_range1 rfl T.range (pa_cons pe_int pa_nil)) (pg_name (i := 5) sc__law_run.nd rfl (Or.inl rfl))
      (pss_cons (ps_if (pt_cmpR op_le (pv 4) pe_int (nomark _))
      (pss_one ps_break)
      pss_nil)
    (C8.pss_cut (ps_asg (pe_op op_add (pe_ix ix_list (pv 0) pe_int (fun _ _ => rfl)) pe_int) (pg_sub (pv 0) pe_int set_list))
    (C8.pss_cut (ps_set (i := 4) sc__law_run.nd rfl (Or.inl rfl) (pe_op op_sub (pv 4) pe_int))
    (pss_one (ps_if (pt_cmpR op_ge (pe_ix ix_list (pv 0) pe_int (fun _ _ => rfl)) (pe_ix ix_list (pv 0) pe_int (fun _ _ => rfl)) (nomark _))
      (pss_cons (ps_asg (pe_op op_add (pe_ix ix_list (pv 0) pe_int (fun _ _ => rfl)) pe_int) (pg_sub (pv 0) pe_int set_list))
    (pss_cons (ps_asg pe_int (pg_sub (pv 0) pe_int set_list))
    (C8.pss_cut (ps_set (i := 6) sc__law_run.nd rfl (Or.inl rfl) (pe_ix ix_tup (pe_ix ix_tup (pv 3) (pe_ix ix_list (pv 0) pe_int (fun _ _ => rfl)) (fun _ _ => rfl)) pe_int (fun _ _ => rfl)))
    (C8.pss_cut (ps_set (i := 7) sc__law_run.nd rfl (Or.inl rfl) (pe_ix ix_tup (pe_ix ix_tup (pv 3) (pe_ix ix_list (pv 0) pe_int (fun _ _ => rfl)) (fun _ _ => rfl)) pe_int (fun _ _ => rfl)))
    (pss_cons (ps_asg (pe_op op_add (pv 6) (pe_call G__law_take (hr.mono (by decide)) rfl D__law_take.m D__law_take.F.kp D__law_take.b .nil pass0 (pa_cons (pv 1) (pa_cons (pe_op op_add pe_int (pe_op op_mod (pe_callTy call_int1 rfl T.int (by decide +kernel) (pa_cons (pe_ix ix_list (pv 0) pe_int (fun _ _ => rfl)) pa_nil)) pe_int)) (pa_cons (pe_op op_add (pe_op op_sub (pv 7) (pv 6)) pe_int) pa_nil))))) (pg_sub (pv 0) pe_int set_list))
    (pss_one (ps_asg (pe_op op_add (pe_ix ix_list (pv 0) pe_int (fun _ _ => rfl)) pe_int) (pg_sub (pv 0) pe_int set_list))))))))
      pss_nil))))))
    (pss_one (ps_ret (pv 2))))), ?_⟩
  refine ⟨_, rfl, _, rfl, by decide, by decide, for_range (lo := 0) (n := 300) (fun j σ H' => ∃ v5 v6 v7, ∃ d : Cs, σ = [some (.ref cl), some (.ref r), some (.int a), some (.ref kt), some (.int (a - (j : Int))), v5, v6, v7] ∧ Wd K H' r n ((cl, d.ns.map PyData.int) :: ls) is ∧ TupK H H' ∧ Ran ks c d (j : Int) ∧ (j : Int) ≤ a) ⟨_, _, _, c, by rw [show a - ((0 : Nat) : Int) = a from by omega]; rfl, w0, TupK.refl _, Ran.refl ok, ha0⟩ ?_ ?_⟩
  · rintro j σ H1 hj ⟨v5, v6, v7, d, rfl, w1, k1, hr, hja⟩
    refine ⟨_, rfl, _, _, rfl, rfl, _, rfl, ite2 (fun g => ?_) (fun g => ?_)⟩
    · have g : a - (j : Int) ≤ 0 := of_decide_eq_true g
      have e : (j : Int) = a := by omega
      rw [e] at hr
      exact ⟨_, rfl, q _ _ d w1 k1 hr⟩
    have g : ¬ a - (j : Int) ≤ 0 := fun z => g (decide_eq_true z)
    have hc1 := (w1.at 0 rfl).toInts
    refine ⟨fun σ H' => ∃ d2 : Cs, σ = [some (.ref cl), some (.ref r), some (.int a), some (.ref kt), some (.int (a - (j : Int))), some (.int (0 + (j : Int))), v6, v7] ∧ d2 = ⟨d.v, d.k, d.e + 1, d.l, d.m⟩ ∧ Wd K H' r n ((cl, d2.ns.map PyData.int) :: ls) is ∧ TupK H H', ?_, ?_⟩
    · refine ⟨_, rfl, _, _, _, _, rfl, rfl, SqL.of hc1, at_of (j := 3) rfl rfl, _, _, rfl, rfl, _, rfl, _, _, _, 3, rfl, rfl, hc1, ixn (by show 3 < 6; decide), _, rfl, rfl, ?_, k1.trans (.set hc1)⟩
      exact w1.cs (ns' := Cs.ns ⟨d.v, d.k, d.e + 1, d.l, d.m⟩) rfl
    clear w1 k1 hc1
    rintro σ H2 ⟨d2, rfl, hd2, w2, k2⟩
    refine ⟨fun σ H' => σ = [some (.ref cl), some (.ref r), some (.int a), some (.ref kt), some (.int (a - (j : Int) - 1)), some (.int (0 + (j : Int))), v6, v7] ∧ H2 = H', ?_, ?_⟩
    · exact ⟨_, rfl, _, _, rfl, rfl, rfl, rfl⟩
    rintro σ H' ⟨rfl, rfl⟩
    have hc2 := (w2.at 0 rfl).toInts
    have fin : ∀ (v6 v7 : Option V) (d' : Cs) (H' : Hp), Wd K H' r n ((cl, d'.ns.map PyData.int) :: ls) is → TupK H H' → Ran ks c d' ((j : Int) + 1) → ∃ w5 w6 w7, ∃ d : Cs, [some (.ref cl), some (.ref r), some (.int a), some (.ref kt), some (.int (a - (j : Int) - 1)), some (.int (0 + (j : Int))), v6, v7] = [some (.ref cl), some (.ref r), some (.int a), some (.ref kt), some (.int (a - ((j + 1 : Nat) : Int))), w5, w6, w7] ∧ Wd K H' r n ((cl, d.ns.map PyData.int) :: ls) is ∧ TupK H H' ∧ Ran ks c d ((j + 1 : Nat) : Int) ∧ ((j + 1 : Nat) : Int) ≤ a := fun v6 v7 d' H' x1 x2 x3 =>
      ⟨_, _, _, d', by rw [show a - (j : Int) - 1 = a - ((j + 1 : Nat) : Int) from by omega], x1, x2, by rw [show (((j + 1 : Nat)) : Int) = (j : Int) + 1 from by omega]; exact x3, by omega⟩
    · refine ⟨_, rfl, _, _, _, _, rfl, rfl, SqL.of hc2, at_of (j := 3) rfl rfl, _, rfl, _, _, _, _, rfl, rfl, SqL.of hc2, at_of (j := 4) rfl rfl, _, _, rfl, rfl, _, rfl, ite2 (fun g2 => ?_) (fun g2 => ?_)⟩
      · have g2 : d2.l ≤ d2.e := of_decide_eq_true g2
        rw [hd2] at g2
        have ok2 := hr.ok
        have h6 : Six ks d2.k := by rw [hd2]; exact ok2.k6
        obtain ⟨hi, h1, h2, h3, h4, h5⟩ := hks.at h6
        refine ⟨_, rfl, _, _, _, _, rfl, rfl, SqL.of hc2, at_of (j := 0) rfl rfl, _, _, rfl, rfl, _, rfl, _, _, _, 0, rfl, rfl, hc2, ixn (by show 0 < 6; decide), ?_⟩
        have w3 := w2.cs (ns' := Cs.ns ⟨d2.v + 1, d2.k, d2.e, d2.l, d2.m⟩) (ws := (d2.ns.map V.int).set 0 (.int (d2.v + 1))) rfl
        have k3 := k2.trans (.set hc2 (o := .lst ((d2.ns.map V.int).set 0 (.int (d2.v + 1)))))
        generalize upd H2 cl (.lst ((d2.ns.map V.int).set 0 (.int (d2.v + 1)))) = H3 at *
        have hc3 := (w3.at 0 rfl).toInts
        refine ⟨_, rfl, _, _, _, 3, rfl, rfl, hc3, ixn (by show 3 < 6; decide), ?_⟩
        have w4 := w3.cs (ns' := Cs.ns ⟨d2.v + 1, d2.k, 0, d2.l, d2.m⟩) (ws := ((Cs.ns ⟨d2.v + 1, d2.k, d2.e, d2.l, d2.m⟩).map V.int).set 3 (.int 0)) rfl
        have k4 := k3.trans (.set hc3 (o := .lst (((Cs.ns ⟨d2.v + 1, d2.k, d2.e, d2.l, d2.m⟩).map V.int).set 3 (.int 0))))
        generalize upd H3 cl (.lst (((Cs.ns ⟨d2.v + 1, d2.k, d2.e, d2.l, d2.m⟩).map V.int).set 3 (.int 0))) = H4 at *
        have hc4 := (w4.at 0 rfl).toInts
        obtain ⟨_, ws, e0, hkt, iks⟩ := Im.unks (Im.mono k4 _ ik)
        cases e0
        obtain ⟨ka, hka, hkd⟩ := kd_at iks h6
        refine ⟨fun σ H' => σ = [some (.ref cl), some (.ref r), some (.int a), some (.ref kt), some (.int (a - (j : Int) - 1)), some (.int (0 + (j : Int))), some (.int (loK ks d2.k)), v7] ∧ H4 = H', ?_, ?_⟩
        · exact ⟨_, rfl, _, rfl, _, _, _, _, rfl, rfl, SqL.of hc4, at_of (j := 1) rfl rfl, _, _, _, _, rfl, rfl, hkt, hka, _, _, _, _, rfl, rfl, hkd, at_of (j := 1) rfl rfl, rfl, rfl⟩
        rintro σ H' ⟨rfl, rfl⟩
        refine ⟨fun σ H' => σ = [some (.ref cl), some (.ref r), some (.int a), some (.ref kt), some (.int (a - (j : Int) - 1)), some (.int (0 + (j : Int))), some (.int (loK ks d2.k)), some (.int hi)] ∧ H4 = H', ?_, ?_⟩
        · exact ⟨_, rfl, _, rfl, _, _, _, _, rfl, rfl, SqL.of hc4, at_of (j := 1) rfl rfl, _, _, _, _, rfl, rfl, hkt, hka, _, _, _, _, rfl, rfl, hkd, at_of (j := 2) rfl (by rw [h1]; rfl), rfl, rfl⟩
        rintro σ H' ⟨rfl, rfl⟩
        have mm : 0 ≤ d2.m.fmod 50 ∧ d2.m.fmod 50 < 50 := ⟨Int.fmod_nonneg_of_pos _ (by decide), Int.fmod_lt_of_pos _ (by decide)⟩
        refine ⟨_, rfl, _, rfl, _, rfl, _, _, _, _, rfl, rfl, SqL.of hc4, at_of (j := 5) rfl rfl, .inl ⟨_, rfl, ?_⟩⟩
        refine ⟨_, _, rfl, rfl, (by show (0 : Int) < 50; decide), _, _, rfl, rfl, _, rfl, _, rfl, _, _, rfl, rfl, _, _, rfl, rfl, r, _, _, n, rfl, w4.rows, ?_, ?_, ?_, ?_, fun g H5 g0 g1 b5 r5 => ?_⟩
        · omega
        · omega
        · omega
        · omega
        have w5 := w4.take b5 r5
        have k5 := k4.trans (w4.tk b5)
        have hc5 := (w5.at 0 rfl).toInts
        refine ⟨_, _, rfl, rfl, _, rfl, _, _, _, 4, rfl, rfl, hc5, ixn (by show 4 < 6; decide), ?_⟩
        have w6 := w5.cs (ns' := Cs.ns ⟨d2.v + 1, d2.k, 0, loK ks d2.k + g, d2.m⟩) (ws := ((Cs.ns ⟨d2.v + 1, d2.k, 0, d2.l, d2.m⟩).map V.int).set 4 (.int (loK ks d2.k + g))) rfl
        have k6 := k5.trans (.set hc5 (o := .lst (((Cs.ns ⟨d2.v + 1, d2.k, 0, d2.l, d2.m⟩).map V.int).set 4 (.int (loK ks d2.k + g)))))
        generalize upd H5 cl (.lst (((Cs.ns ⟨d2.v + 1, d2.k, 0, d2.l, d2.m⟩).map V.int).set 4 (.int (loK ks d2.k + g)))) = H6 at *
        have hc6 := (w6.at 0 rfl).toInts
        refine ⟨_, rfl, _, _, _, _, rfl, rfl, SqL.of hc6, at_of (j := 5) rfl rfl, _, _, rfl, rfl, _, rfl, _, _, _, 5, rfl, rfl, hc6, ixn (by show 5 < 6; decide), fin _ _ ⟨d2.v + 1, d2.k, 0, loK ks d2.k + g, d2.m + 1⟩ _ ?_ (k6.trans (.set hc6)) ?_⟩
        · exact w6.cs (ns' := Cs.ns ⟨d2.v + 1, d2.k, 0, loK ks d2.k + g, d2.m + 1⟩) rfl
        · have ek := hr.k
          have g2 : d.l ≤ d.e + 1 := g2
          subst hd2
          exact hr.next (by omega) (by show loK ks c.k ≤ loK ks d.k + g; rw [ek]; omega) (by show loK ks d.k + g ≤ hiK ks c.k; rw [← ek]; show _ ≤ hiK ks d.k; have h2 : hiK ks d.k = hi := h2; have g1 : g < hi - loK ks d.k + 1 := g1; omega) (by have h3 : 1 ≤ loK ks d.k := h3; show 0 < loK ks d.k + g; omega)
      · have g2 : ¬ d2.l ≤ d2.e := fun z => g2 (decide_eq_true z)
        subst hd2
        have g2 : ¬ d.l ≤ d.e + 1 := g2
        exact fin _ _ _ _ w2 k2 (hr.one (by omega))
  · rintro σ H1 ⟨v5, v6, v7, d, rfl, w1, k1, hr, hja⟩
    omega
def sp__law_begin (K : PySem.W.Frag) : Sp := fun vs H Q _ => ∃ (cl r kt : Addr) (n : Nat) (ls : List (Addr × List PyData)) (is : List (Addr × HO)) (c : Cs) (ks : List Kd), vs = [.ref cl, .ref r, .ref kt] ∧ Wd K H r n ((cl, c.ns.map PyData.int) :: ls) is ∧ Im K H (ksP ks) (.ref kt) ∧ Ks24 ks ∧ Six ks c.k ∧ 0 ≤ c.m ∧ 59 ≤ n ∧
  ∀ (v : V) (H' : Hp) (l : Int), Wd K H' r n ((cl, (Cs.ns ⟨c.v, c.k, 0, l, c.m + 1⟩).map PyData.int) :: ls) is → TupK H H' → CsOk ks ⟨c.v, c.k, 0, l, c.m + 1⟩ → Q v H'
set_option maxHeartbeats 2000000 in
theorem ok__law_begin {f : Addr} {fd : FuncData} (D : Df K mg "_law_begin" s__law_begin ["clock", "rows", "kinds"] f fd) (T : Txt K mg) {f__law_take : Addr} {fd__law_take : FuncData} (D__law_take : Df K mg "_law_take" s__law_take ["rows", "at", "many"] f__law_take fd__law_take) (G__law_take : FnOk P w K mg base CX0 1 f__law_take fd__law_take ["rows", "at", "many"] (sp__law_take K)) : FnOk P w K mg base CX0 2 f fd ["clock", "rows", "kinds"] (sp__law_begin K) := by
  refine D.F.ok sc__law_begin (fun vs H Q E h => ?_) (fun cdv A outer s H vs Q E hr h => ?_)
  · obtain ⟨cl, r, kt, n, ls, is, c, ks, rfl, _⟩ := h
    rfl
  obtain ⟨cl, r, kt, n, ls, is, c, ks, rfl, w0, ik, hks, h6, hm0, hn, q⟩ := h
  refine ⟨_, (pss_cons (ps_asg pe_int (pg_sub (pv 0) pe_int set_list))
    (C8.pss_cut (ps_set (i := 3) sc__law_begin.nd rfl (Or.inl rfl) (pe_ix ix_tup (pe_ix ix_tup (pv 2) (pe_ix ix_list (pv 0) pe_int (fun _ _ => rfl)) (fun _ _ => rfl)) pe_int (fun _ _ => rfl)))
    (pss_cons (ps_asg (pe_op op_add (pv 3) (pe_call G__law_take (hr.mono (by decide)) rfl D__law_take.m D__law_take.F.kp D__law_take.b .nil pass0 (pa_cons (pv 1) (pa_cons (pe_op op_add pe_int (pe_op op_mod (pe_callTy call_int1 rfl T.int (by decide +kernel) (pa_cons (pe_ix ix_list (pv 0) pe_int (fun _ _ => rfl)) pa_nil)) pe_int)) (pa_cons (pe_op op_add (pe_op op_sub (pe_ix ix_tup (pe_ix ix_tup (pv 2) (pe_ix ix_list (pv 0) pe_int (fun _ _ => rfl)) (fun _ _ => rfl)) pe_int (fun _ _ => rfl)) (pv 3)) pe_int) pa_nil))))) (pg_sub (pv 0) pe_int set_list))
    (pss_one (ps_asg (pe_op op_add (pe_ix ix_list (pv 0) pe_int (fun _ _ => rfl)) pe_int) (pg_sub (pv 0) pe_int set_list)))))), ?_⟩
  have hc0 := (w0.at 0 rfl).toInts
  refine ⟨_, rfl, _, _, _, 3, rfl, rfl, hc0, ixn (by show 3 < 6; decide), ?_⟩
  have w1 := w0.cs (ns' := Cs.ns ⟨c.v, c.k, 0, c.l, c.m⟩) (ws := (c.ns.map V.int).set 3 (.int 0)) rfl
  have k1 : TupK H (upd H cl (.lst ((c.ns.map V.int).set 3 (.int 0)))) := .set hc0
  generalize upd H cl (.lst ((c.ns.map V.int).set 3 (.int 0))) = H1 at *
  have ik1 := Im.mono k1 _ ik
  obtain ⟨_, ws, e0, hkt, iks⟩ := Im.unks ik1
  cases e0
  obtain ⟨ka, hka, hkd⟩ := kd_at iks h6
  obtain ⟨hi, h1, h2, h3, h4, h5⟩ := hks.at h6
  have hc1 := (w1.at 0 rfl).toInts
  refine ⟨fun σ H' => σ = [some (.ref cl), some (.ref r), some (.ref kt), some (.int (loK ks c.k))] ∧ H1 = H', ?_, ?_⟩
  · exact ⟨_, rfl, _, rfl, _, _, _, _, rfl, rfl, SqL.of hc1, at_of (j := 1) rfl rfl, _, _, _, _, rfl, rfl, hkt, hka, _, _, _, _, rfl, rfl, hkd, at_of (j := 1) rfl rfl, rfl, rfl⟩
  rintro σ H' ⟨rfl, rfl⟩
  have mm : 0 ≤ c.m.fmod 50 ∧ c.m.fmod 50 < 50 := ⟨Int.fmod_nonneg_of_pos _ (by decide), Int.fmod_lt_of_pos _ (by decide)⟩
  refine ⟨_, rfl, _, rfl, _, rfl, _, _, _, _, rfl, rfl, SqL.of hc1, at_of (j := 5) rfl rfl, .inl ⟨_, rfl, ?_⟩⟩
  refine ⟨_, _, rfl, rfl, (by show (0 : Int) < 50; decide), _, _, rfl, rfl, _, rfl, _, rfl, _, _, _, _, rfl, rfl, SqL.of hc1, at_of (j := 1) rfl rfl, _, _, _, _, rfl, rfl, hkt, hka, _, _, _, _, rfl, rfl, hkd, at_of (j := 2) rfl (by rw [h1]; rfl), _, rfl, _, _, rfl, rfl, _, _, rfl, rfl, r, _, _, n, rfl, w1.rows, ?_, ?_, ?_, ?_, fun g H2 g0 g1 b2 r2 => ?_⟩
  · omega
  · omega
  · omega
  · omega
  have w2 := w1.take b2 r2
  have k2 := k1.trans (w1.tk b2)
  have hc2 := (w2.at 0 rfl).toInts
  refine ⟨_, _, rfl, rfl, _, rfl, _, _, _, 4, rfl, rfl, hc2, ixn (by show 4 < 6; decide), ?_⟩
  have w3 := w2.cs (ns' := Cs.ns ⟨c.v, c.k, 0, loK ks c.k + g, c.m⟩) (ws := ((Cs.ns ⟨c.v, c.k, 0, c.l, c.m⟩).map V.int).set 4 (.int (loK ks c.k + g))) rfl
  have k3 := k2.trans (.set hc2 (o := .lst (((Cs.ns ⟨c.v, c.k, 0, c.l, c.m⟩).map V.int).set 4 (.int (loK ks c.k + g)))))
  generalize upd H2 cl (.lst (((Cs.ns ⟨c.v, c.k, 0, c.l, c.m⟩).map V.int).set 4 (.int (loK ks c.k + g)))) = H3 at *
  have hc3 := (w3.at 0 rfl).toInts
  refine ⟨_, rfl, _, _, _, _, rfl, rfl, SqL.of hc3, at_of (j := 5) rfl rfl, _, _, rfl, rfl, _, rfl, _, _, _, 5, rfl, rfl, hc3, ixn (by show 5 < 6; decide), ?_⟩
  have w4 := w3.cs (ns' := Cs.ns ⟨c.v, c.k, 0, loK ks c.k + g, c.m + 1⟩) (ws := ((Cs.ns ⟨c.v, c.k, 0, loK ks c.k + g, c.m⟩).map V.int).set 5 (.int (c.m + 1))) rfl
  exact q _ _ _ w4 (k3.trans (.set hc3)) ⟨Int.le_refl _, by show 0 < loK ks c.k + g; omega, by show loK ks c.k ≤ loK ks c.k + g; omega, by show loK ks c.k + g ≤ hiK ks c.k; omega, h6, by show 0 ≤ c.m + 1; omega⟩
def sp__law_deed (K : PySem.W.Frag) : Sp := fun vs H Q _ => ∃ (r cl kt : Addr) (at_ : Int) (n : Nat) (ls : List (Addr × List PyData)) (is : List (Addr × HO)) (d : Cs) (ks : List Kd), vs = [.ref r, .int at_, .ref cl, .ref kt] ∧ Wd K H r n ((cl, d.ns.map PyData.int) :: ls) is ∧ Im K H (ksP ks) (.ref kt) ∧ Ks24 ks ∧ CsOk ks d ∧ 0 ≤ at_ ∧ at_ < n ∧ 59 ≤ n ∧
  ∀ (da : Addr) (H' : Hp) (f : Cs) (D : Dd), Wd K H' r n ((cl, f.ns.map PyData.int) :: ls) is → TupK H H' → Im K H' (ddP D) (.ref da) → Done ks d f D → CsOk ks f → Q (.ref da) H'
set_option maxHeartbeats 2000000 in
theorem ok__law_deed {f : Addr} {fd : FuncData} (D : Df K mg "_law_deed" s__law_deed ["rows", "at", "clock", "kinds"] f fd) (T : Txt K mg) {f__law_take : Addr} {fd__law_take : FuncData} (D__law_take : Df K mg "_law_take" s__law_take ["rows", "at", "many"] f__law_take fd__law_take) (G__law_take : FnOk P w K mg base CX0 1 f__law_take fd__law_take ["rows", "at", "many"] (sp__law_take K)) {f__law_begin : Addr} {fd__law_begin : FuncData} (D__law_begin : Df K mg "_law_begin" s__law_begin ["clock", "rows", "kinds"] f__law_begin fd__law_begin) (G__law_begin : FnOk P w K mg base CX0 2 f__law_begin fd__law_begin ["clock", "rows", "kinds"] (sp__law_begin K)) : FnOk P w K mg base CX0 3 f fd ["rows", "at", "clock", "kinds"] (sp__law_deed K) := by
  refine D.F.ok sc__law_deed (fun vs H Q E h => ?_) (fun cdv A outer s H vs Q E hr h => ?_)
  · obtain ⟨r, cl, kt, at_, n, ls, is, d, ks, rfl, _⟩ := h
    rfl
  obtain ⟨r, cl, kt, at_, n, ls, is, d, ks, rfl, w0, ik, hks, ok, h0, h1, hn, q⟩ := h
  refine ⟨_, (pss_cons (ps_set (i := 4) sc__law_deed.nd rfl (Or.inl rfl) (pe_call G__law_take (hr.mono (by decide)) rfl D__law_take.m D__law_take.F.kp D__law_take.b .nil pass0 (pa_cons (pv 0) (pa_cons (pv 1) (pa_cons pe_int pa_nil)))))
    (pss_cons (ps_set (i := 5) sc__law_deed.nd rfl (Or.inl rfl) (pe_ix ix_list (pv 2) pe_int (fun _ _ => rfl)))
    (pss_cons (ps_set (i := 6) sc__law_deed.nd rfl (Or.inl rfl) (pe_tup (pa_cons pe_str pa_nil)))
    (C8.pss_cut (ps_if (pt_cmpR op_eq (pv 4) pe_int (nomark _))
      (pss_cons (ps_set (i := 6) sc__law_deed.nd rfl (Or.inl rfl) (pe_tup (pa_cons pe_str (pa_cons pe_int (pa_cons (pe_call G__law_take (hr.mono (by decide)) rfl D__law_take.m D__law_take.F.kp D__law_take.b .nil pass0 (pa_cons (pv 0) (pa_cons (pv 1) (pa_cons pe_int pa_nil)))) pa_nil)))))
    (pss_one (ps_asg (pe_ix ix_tup (pv 6) pe_int (fun _ _ => rfl)) (pg_sub (pv 2) pe_int set_list))))
      pss_nil)
    (C8.pss_cut (ps_if (pt_cmpR op_eq (pv 4) pe_int (nomark _))
      (pss_one (ps_set (i := 5) sc__law_deed.nd rfl (Or.inl rfl) (pe_op op_sub (pe_call G__law_take (hr.mono (by decide)) rfl D__law_take.m D__law_take.F.kp D__law_take.b .nil pass0 (pa_cons (pv 0) (pa_cons (pv 1) (pa_cons pe_int pa_nil)))) pe_int)))
      pss_nil)
    (pss_cons (ps_if (PW.pt (pw_or (pt_cmpR op_eq (pv 4) pe_int (nomark _)) (pw_or1 (pt_cmpR op_ne (pv 5) (pe_ix ix_list (pv 2) pe_int (fun _ _ => rfl)) (nomark _)))))
      (pss_cons (ps_asg (pv 5) (pg_sub (pv 2) pe_int set_list))
    (pss_one (ps_expr (pe_call G__law_begin (hr.mono (by decide)) rfl D__law_begin.m D__law_begin.F.kp D__law_begin.b .nil pass0 (pa_cons (pv 2) (pa_cons (pv 0) (pa_cons (pv 3) pa_nil)))))))
      pss_nil)
    (pss_one (ps_ret (pv 6))))))))), ?_⟩
  refine ⟨_, rfl, _, rfl, r, _, 6, n, rfl, w0.rows, h0, h1, by decide, by decide, fun y H1 y0 y6 b1 r1 => ?_⟩
  have w1 := w0.take b1 r1
  have k1 := w0.tk b1
  have hc1 := (w1.at 0 rfl).toInts
  refine ⟨_, rfl, _, _, _, _, rfl, rfl, SqL.of hc1, at_of (j := 0) rfl rfl, (by show 1 ≤ sizeLine; decide), fun a2 n2 => ?_⟩
  generalize e2 : upd H1 a2 _ = H2
  obtain ⟨s2, h2⟩ := fr e2 n2
  clear e2
  have w2 := w1.keep s2
  have k2 := k1.trans (.of s2)
  have in2 : Im K H2 (ddP ⟨0, []⟩) (.ref a2) := ddI (d := ⟨0, []⟩) (z := "note") rfl (show (0 : Nat) ≠ 8 by decide) (SqT.of h2)
  clear h2 n2 s2 hc1 w1 k1
  refine ⟨fun σ H' => ∃ (da : Addr) (D : Dd) (d2 : Cs), σ = [some (.ref r), some (.int at_), some (.ref cl), some (.ref kt), some (.int y), some (.int d.v), some (.ref da)] ∧ Wd K H' r n ((cl, d2.ns.map PyData.int) :: ls) is ∧ TupK H H' ∧ Im K H' (ddP D) (.ref da) ∧ ((y ≠ 0 ∧ D = ⟨0, []⟩ ∧ d2 = d) ∨ (y = 0 ∧ ∃ k, 0 ≤ k ∧ k < 2 ∧ D = ⟨1, [0, k]⟩ ∧ d2 = ⟨d.v, k, d.e, d.l, d.m⟩)), ?_, ?_⟩
  · refine ⟨_, rfl, rfl, _, rfl, ite2 (fun g => ?_) (fun g => ?_)⟩
    · have g : y = 0 := vint_eq g
      refine ⟨_, rfl, _, rfl, r, _, 2, n, rfl, w2.rows, h0, h1, by decide, by decide, fun k H3 k0 k2' b3 r3 => ?_⟩
      have w3 := w2.take b3 r3
      have k3 := k2.trans (w2.tk b3)
      refine ⟨(by show 3 ≤ sizeLine; decide), fun a4 n4 => ?_⟩
      generalize e4 : upd H3 a4 _ = H4
      obtain ⟨s4, h4⟩ := fr e4 n4
      clear e4
      have w4 := w3.keep s4
      have k4 := k3.trans (.of s4)
      have hc4 := (w4.at 0 rfl).toInts
      have id4 : Im K H4 (ddP ⟨1, [0, k]⟩) (.ref a4) := ddI (d := ⟨1, [0, k]⟩) (z := "kind") rfl (show (1 : Nat) ≠ 8 by decide) (SqT.of h4)
      refine ⟨_, rfl, _, _, _, _, rfl, rfl, SqT.of h4, at_of (j := 2) rfl rfl, _, rfl, _, _, _, 1, rfl, rfl, hc4, ixn (by show 1 < 6; decide), a4, ⟨1, [0, k]⟩, ⟨d.v, k, d.e, d.l, d.m⟩, rfl, ?_, k4.trans (.set hc4), Im.mono (.set hc4) _ id4, .inr ⟨g, k, k0, k2', rfl, rfl⟩⟩
      exact w4.cs (ns' := Cs.ns ⟨d.v, k, d.e, d.l, d.m⟩) rfl
    · exact ⟨a2, _, d, rfl, w2, k2, in2, .inl ⟨vint_ne g, rfl, rfl⟩⟩
  clear w2 k2 in2
  rintro σ H3 ⟨da, D, d2, rfl, w3, k3, i3, hD⟩
  refine ⟨fun σ H' => ∃ z : Int, σ = [some (.ref r), some (.int at_), some (.ref cl), some (.ref kt), some (.int y), some (.int z), some (.ref da)] ∧ Wd K H' r n ((cl, d2.ns.map PyData.int) :: ls) is ∧ TupK H H' ∧ Im K H' (ddP D) (.ref da) ∧ (y = 0 → z = d.v), ?_, ?_⟩
  · refine ⟨_, rfl, rfl, _, rfl, ite2 (fun g => ?_) (fun g => ?_)⟩
    · have g : y = 1 := vint_eq g
      refine ⟨_, rfl, _, rfl, r, _, 41, n, rfl, w3.rows, h0, h1, by decide, by decide, fun z H4 _ _ b4 r4 => ?_⟩
      exact ⟨_, _, rfl, rfl, _, rfl, w3.take b4 r4, k3.trans (w3.tk b4), Im.mono (w3.tk b4) _ i3, fun e => by omega⟩
    · exact ⟨_, rfl, w3, k3, i3, fun _ => rfl⟩
  clear w3 k3 i3
  rintro σ H4 ⟨z, rfl, w4, k4, i4, hz⟩
  have hc4 := (w4.at 0 rfl).toInts
  have d2v : d2.v = d.v := by
    rcases hD with ⟨_, _, e⟩ | ⟨_, k, _, _, _, e⟩ <;> rw [e]
  have d2m : d2.m = d.m := by
    rcases hD with ⟨_, _, e⟩ | ⟨_, k, _, _, _, e⟩ <;> rw [e]
  have d2k : Six ks d2.k := by
    rcases hD with ⟨_, _, e⟩ | ⟨_, k, k0, k1, _, e⟩ <;> rw [e]
    · exact ok.k6
    · exact ⟨k0, by rw [hks.len]; exact k1⟩
  refine ⟨_, rfl, rfl, _, rfl, ite2 (fun g => ?_) (fun g => ⟨_, rfl, _, rfl, _, _, _, _, rfl, rfl, SqL.of hc4, at_of (j := 0) rfl rfl, rfl, _, rfl, ite2 (fun g2 => ?_) (fun g2 => ?_)⟩)⟩
  · have g : y = 0 := vint_eq g
    refine ⟨_, rfl, _, rfl, _, _, _, 0, rfl, rfl, hc4, ixn (by show 0 < 6; decide), ?_⟩
    have w5 := w4.cs (ns' := Cs.ns ⟨z, d2.k, d2.e, d2.l, d2.m⟩) (ws := (d2.ns.map V.int).set 0 (.int z)) rfl
    have k5 : TupK H4 (upd H4 cl (.lst ((d2.ns.map V.int).set 0 (.int z)))) := .set hc4
    generalize upd H4 cl (.lst ((d2.ns.map V.int).set 0 (.int z))) = H5 at *
    refine ⟨_, rfl, _, rfl, _, rfl, cl, r, kt, n, ls, is, ⟨z, d2.k, d2.e, d2.l, d2.m⟩, ks, rfl, w5, Im.mono (k4.trans k5) _ ik, hks, d2k, by show 0 ≤ d2.m; rw [d2m]; exact ok.m0, hn, fun v H6 l w6 k6 ok6 => ⟨_, rfl, q da H6 ⟨z, d2.k, 0, l, d2.m + 1⟩ D w6 ((k4.trans k5).trans k6) (Im.mono (k5.trans k6) _ i4) ?_ ok6⟩⟩
    rcases hD with ⟨e, _⟩ | ⟨_, k, _, _, e1, e2⟩
    · exact absurd g e
    · subst e1 e2
      rw [hz g] at ok6 ⊢
      exact .kind k l _ ok6
  · have g : y ≠ 0 := vint_ne g
    have g2 := vne_int g2
    refine ⟨_, rfl, _, rfl, _, _, _, 0, rfl, rfl, hc4, ixn (by show 0 < 6; decide), ?_⟩
    have w5 := w4.cs (ns' := Cs.ns ⟨z, d2.k, d2.e, d2.l, d2.m⟩) (ws := (d2.ns.map V.int).set 0 (.int z)) rfl
    have k5 : TupK H4 (upd H4 cl (.lst ((d2.ns.map V.int).set 0 (.int z)))) := .set hc4
    generalize upd H4 cl (.lst ((d2.ns.map V.int).set 0 (.int z))) = H5 at *
    refine ⟨_, rfl, _, rfl, _, rfl, cl, r, kt, n, ls, is, ⟨z, d2.k, d2.e, d2.l, d2.m⟩, ks, rfl, w5, Im.mono (k4.trans k5) _ ik, hks, d2k, by show 0 ≤ d2.m; rw [d2m]; exact ok.m0, hn, fun v H6 l w6 k6 ok6 => ⟨_, rfl, q da H6 ⟨z, d2.k, 0, l, d2.m + 1⟩ D w6 ((k4.trans k5).trans k6) (Im.mono (k5.trans k6) _ i4) ?_ ok6⟩⟩
    rcases hD with ⟨_, e1, e2⟩ | ⟨e, _⟩
    · subst e1 e2
      exact .set z l _ g2 ok6
    · exact absurd e g
  · have g : y ≠ 0 := vint_ne g
    rcases hD with ⟨_, e1, e2⟩ | ⟨e, _⟩
    · subst e1 e2
      exact ⟨_, rfl, q da H4 d2 _ w4 k4 i4 .note ok⟩
    · exact absurd e g
theorem insSq {C dx : Addr} {fs : List (Str × V)} {K : PySem.W.Frag} {H H' : Hp} {o a : Addr} {ys : List V} (e : But o H H') (ho : H o = some (.ins C dx fs)) (h : SqL K H a ys) : SqL K H' a ys := by
  rcases h with (h | ⟨ob, h⟩) | h
  · exact .inl (.inl (e _ _ (ne_of h ho (by intro z; cases z)) h))
  · exact .inl (.inr ⟨ob, e _ _ (ne_of h ho (by intro z; cases z)) h⟩)
  · exact .inr h
def sp_Frame___init__ (K : PySem.W.Frag) (CF : Addr) : Sp := fun vs H Q _ => ∃ (p dx a1 a2 a3 a4 : Addr) (x1 x2 x3 x4 : List V) (v5 : V), vs = [.ref p, .ref a1, .ref a2, .ref a3, .ref a4, v5] ∧ H p = some (.ins CF dx []) ∧ SqL K H a1 x1 ∧ SqL K H a2 x2 ∧ SqL K H a3 x3 ∧ SqL K H a4 x4 ∧
  ∀ (d1 d2 d3 d4 : Addr) (H' : Hp), But p H H' → H' p = some (.ins CF dx (ff_Frame (.ref d1) (.ref d2) (.ref d3) (.ref d4) v5)) → H' d1 = some (.lst x1) → H' d2 = some (.lst x2) → H' d3 = some (.lst x3) → H' d4 = some (.lst x4) → H d1 = none → H d2 = none → H d3 = none → H d4 = none → [d1, d2, d3, d4].Nodup → Q .non H'
theorem ok_Frame___init__ {f : Addr} {fd : FuncData} {CF : Addr} (TF : Ck_Frame K mg CF) (D : Mt K CF "__init__" "Frame.__init__" s_Frame___init__ ["self", "devices", "clocks", "links", "sources", "faults"] f fd) (T : Txt K mg) : FnOk P w K mg base CX0 1 f fd ["self", "devices", "clocks", "links", "sources", "faults"] (sp_Frame___init__ K CF) := by
  refine D.F.ok sc_Frame___init__ (fun vs H Q E h => ?_) (fun cdv A outer s H vs Q E hr h => ?_)
  · obtain ⟨p, dx, a1, a2, a3, a4, x1, x2, x3, x4, v5, rfl, _⟩ := h
    rfl
  obtain ⟨p, dx, a1, a2, a3, a4, x1, x2, x3, x4, v5, rfl, hp, h1, h2, h3, h4, q⟩ := h
  refine ⟨_, (pss_cons (ps_fld (pv 0) (pe_callTy call_list_of rfl T.list (by decide +kernel) (pa_cons (pv 1) pa_nil)) rfl)
    (pss_cons (ps_fld (pv 0) (pe_callTy call_list_of rfl T.list (by decide +kernel) (pa_cons (pv 2) pa_nil)) rfl)
    (pss_cons (ps_fld (pv 0) (pe_callTy call_list_of rfl T.list (by decide +kernel) (pa_cons (pv 3) pa_nil)) rfl)
    (pss_cons (ps_fld (pv 0) (pe_callTy call_list_of rfl T.list (by decide +kernel) (pa_cons (pv 4) pa_nil)) rfl)
    (pss_one (ps_fld (pv 0) (pv 5) rfl)))))), ?_⟩
  refine ⟨_, rfl, _, _, rfl, .inl h1, fun d1 n1 => ?_⟩
  have s1 : Same H (upd H d1 (.lst x1)) := same_upd n1
  have e1 : (upd H d1 (.lst x1)) d1 = some (.lst x1) := upd_same
  generalize upd H d1 (.lst x1) = H1 at *
  have p1 := s1 _ _ hp
  refine ⟨_, rfl, p, CF, dx, [], rfl, p1, TF.cl, TF.n_devices, (by show 0 < 1000; decide), ?_⟩
  have b1 : But p H1 (upd H1 p (.ins CF dx (putF "devices" (.ref d1) []))) := But.set
  have q1 : (upd H1 p (.ins CF dx (putF "devices" (.ref d1) []))) p = some (.ins CF dx (putF "devices" (.ref d1) [])) := upd_same
  have f1 := b1 _ _ (ne_of e1 p1 (by intro z; cases z)) e1
  have g2 := insSq b1 p1 (s1.seq h2)
  have g3 := insSq b1 p1 (s1.seq h3)
  have g4 := insSq b1 p1 (s1.seq h4)
  have c1 := (But.of s1).trans b1
  have w1 : ∀ b, (upd H1 p (.ins CF dx (putF "devices" (.ref d1) []))) b = none → H b = none := fun b hb => by
    cases e : H b with
    | none => rfl
    | some u =>
      by_cases hbp : b = p
      · rw [hbp, q1] at hb; cases hb
      · rw [c1 _ _ hbp e] at hb; cases hb
  generalize upd H1 p (.ins CF dx (putF "devices" (.ref d1) [])) = H2 at *
  refine ⟨_, rfl, _, _, rfl, .inl g2, fun d2 n2 => ?_⟩
  have d12 : d1 ≠ d2 := ne_of_none f1 n2
  have s2 : Same H2 (upd H2 d2 (.lst x2)) := same_upd n2
  have e2 : (upd H2 d2 (.lst x2)) d2 = some (.lst x2) := upd_same
  generalize upd H2 d2 (.lst x2) = H3 at *
  have p3 := s2 _ _ q1
  refine ⟨_, rfl, p, CF, dx, _, rfl, p3, TF.cl, TF.n_clocks, (by show 1 < 1000; decide), ?_⟩
  have b3 : But p H3 (upd H3 p (.ins CF dx (putF "clocks" (.ref d2) (putF "devices" (.ref d1) [])))) := But.set
  have q3 : (upd H3 p (.ins CF dx (putF "clocks" (.ref d2) (putF "devices" (.ref d1) [])))) p = some (.ins CF dx (putF "clocks" (.ref d2) (putF "devices" (.ref d1) []))) := upd_same
  have f2 := b3 _ _ (ne_of e2 p3 (by intro z; cases z)) e2
  have f1 := b3 _ _ (ne_of (s2 _ _ f1) p3 (by intro z; cases z)) (s2 _ _ f1)
  have g3 := insSq b3 p3 (s2.seq g3)
  have g4 := insSq b3 p3 (s2.seq g4)
  have c3 := c1.trans ((But.of s2).trans b3)
  have w3 : ∀ b, (upd H3 p (.ins CF dx (putF "clocks" (.ref d2) (putF "devices" (.ref d1) [])))) b = none → H b = none := fun b hb => by
    cases e : H b with
    | none => rfl
    | some u =>
      by_cases hbp : b = p
      · rw [hbp, q3] at hb; cases hb
      · rw [c3 _ _ hbp e] at hb; cases hb
  generalize upd H3 p (.ins CF dx (putF "clocks" (.ref d2) (putF "devices" (.ref d1) []))) = H4 at *
  refine ⟨_, rfl, _, _, rfl, .inl g3, fun d3 n3 => ?_⟩
  have d13 : d1 ≠ d3 := ne_of_none f1 n3
  have d23 : d2 ≠ d3 := ne_of_none f2 n3
  have s4 : Same H4 (upd H4 d3 (.lst x3)) := same_upd n3
  have e3 : (upd H4 d3 (.lst x3)) d3 = some (.lst x3) := upd_same
  generalize upd H4 d3 (.lst x3) = H5 at *
  have p5 := s4 _ _ q3
  refine ⟨_, rfl, p, CF, dx, _, rfl, p5, TF.cl, TF.n_links, (by show 2 < 1000; decide), ?_⟩
  have b5 : But p H5 (upd H5 p (.ins CF dx (putF "links" (.ref d3) (putF "clocks" (.ref d2) (putF "devices" (.ref d1) []))))) := But.set
  have q5 : (upd H5 p (.ins CF dx (putF "links" (.ref d3) (putF "clocks" (.ref d2) (putF "devices" (.ref d1) []))))) p = some (.ins CF dx (putF "links" (.ref d3) (putF "clocks" (.ref d2) (putF "devices" (.ref d1) [])))) := upd_same
  have f3 := b5 _ _ (ne_of e3 p5 (by intro z; cases z)) e3
  have f2 := b5 _ _ (ne_of (s4 _ _ f2) p5 (by intro z; cases z)) (s4 _ _ f2)
  have f1 := b5 _ _ (ne_of (s4 _ _ f1) p5 (by intro z; cases z)) (s4 _ _ f1)
  have g4 := insSq b5 p5 (s4.seq g4)
  have c5 := c3.trans ((But.of s4).trans b5)
  have w5 : ∀ b, (upd H5 p (.ins CF dx (putF "links" (.ref d3) (putF "clocks" (.ref d2) (putF "devices" (.ref d1) []))))) b = none → H b = none := fun b hb => by
    cases e : H b with
    | none => rfl
    | some u =>
      by_cases hbp : b = p
      · rw [hbp, q5] at hb; cases hb
      · rw [c5 _ _ hbp e] at hb; cases hb
  generalize upd H5 p (.ins CF dx (putF "links" (.ref d3) (putF "clocks" (.ref d2) (putF "devices" (.ref d1) [])))) = H6 at *
  refine ⟨_, rfl, _, _, rfl, .inl g4, fun d4 n4 => ?_⟩
  have d14 : d1 ≠ d4 := ne_of_none f1 n4
  have d24 : d2 ≠ d4 := ne_of_none f2 n4
  have d34 : d3 ≠ d4 := ne_of_none f3 n4
  have s6 : Same H6 (upd H6 d4 (.lst x4)) := same_upd n4
  have e4 : (upd H6 d4 (.lst x4)) d4 = some (.lst x4) := upd_same
  generalize upd H6 d4 (.lst x4) = H7 at *
  have p7 := s6 _ _ q5
  refine ⟨_, rfl, p, CF, dx, _, rfl, p7, TF.cl, TF.n_sources, (by show 3 < 1000; decide), ?_⟩
  have b7 : But p H7 (upd H7 p (.ins CF dx (putF "sources" (.ref d4) (putF "links" (.ref d3) (putF "clocks" (.ref d2) (putF "devices" (.ref d1) [])))))) := But.set
  have q7 : (upd H7 p (.ins CF dx (putF "sources" (.ref d4) (putF "links" (.ref d3) (putF "clocks" (.ref d2) (putF "devices" (.ref d1) [])))))) p = some (.ins CF dx (putF "sources" (.ref d4) (putF "links" (.ref d3) (putF "clocks" (.ref d2) (putF "devices" (.ref d1) []))))) := upd_same
  have c7 := c5.trans ((But.of s6).trans b7)
  have f4 := b7 _ _ (ne_of e4 p7 (by intro z; cases z)) e4
  have f3 := b7 _ _ (ne_of (s6 _ _ f3) p7 (by intro z; cases z)) (s6 _ _ f3)
  have f2 := b7 _ _ (ne_of (s6 _ _ f2) p7 (by intro z; cases z)) (s6 _ _ f2)
  have f1 := b7 _ _ (ne_of (s6 _ _ f1) p7 (by intro z; cases z)) (s6 _ _ f1)
  generalize upd H7 p (.ins CF dx (putF "sources" (.ref d4) (putF "links" (.ref d3) (putF "clocks" (.ref d2) (putF "devices" (.ref d1) []))))) = H8 at *
  refine ⟨_, rfl, _, rfl, p, CF, dx, _, rfl, q7, TF.cl, TF.n_faults, (by show 4 < 1000; decide), ?_⟩
  have b9 : But p H8 (upd H8 p (.ins CF dx (ff_Frame (.ref d1) (.ref d2) (.ref d3) (.ref d4) v5))) := But.set
  refine q d1 d2 d3 d4 _ (c7.trans b9) upd_same (b9 _ _ (ne_of f1 q7 (by intro z; cases z)) f1) (b9 _ _ (ne_of f2 q7 (by intro z; cases z)) f2) (b9 _ _ (ne_of f3 q7 (by intro z; cases z)) f3) (b9 _ _ (ne_of f4 q7 (by intro z; cases z)) f4) n1 (w1 _ n2) (w3 _ n3) (w5 _ n4) ?_
  simp only [List.nodup_cons, List.mem_cons, List.not_mem_nil, or_false, not_or, not_false_eq_true, List.nodup_nil, and_true]
  exact ⟨⟨d12, d13, d14⟩, ⟨d23, d24⟩, d34⟩
theorem Wd.perm {K : PySem.W.Frag} {H : Hp} {r : Addr} {n : Nat} {ls ls' : List (Addr × List PyData)} {is : List (Addr × HO)} (w : Wd K H r n ls is) (p : ls.Perm ls') : Wd K H r n ls' is :=
  ⟨w.rows, fun q hq => w.la q (p.mem_iff.mpr hq), w.ia, (List.Perm.nodup_iff (List.Perm.cons _ (List.Perm.append_right _ (p.map _)))).mp w.nd⟩
theorem TupK.setD {H : Hp} {p : Addr} {kvs : List (List Key × V)} {o : HO} (h : H p = some (.dT kvs)) : TupK H (upd H p o) :=
  ⟨fun c u h2 => by rw [upd_ne (ne_of h2 h (by intro z; cases z))]; exact h2, fun c o u h2 => by rw [upd_ne (ne_of h2 h (by intro z; cases z))]; exact h2⟩
theorem Wd.putD {K : PySem.W.Frag} {H : Hp} {r : Addr} {n : Nat} {ls : List (Addr × List PyData)} {is : List (Addr × HO)} {v : Addr} {xs ys : List (List Key × V)} (w : Wd K H r n ls ((v, .dT xs) :: is)) : Wd K (upd H v (.dT ys)) r n ls ((v, .dT ys) :: is) := by
  have hx : H v = some (.dT xs) := w.ia _ List.mem_cons_self
  have nd2 := (List.nodup_cons.mp w.nd).2
  have nd3 := List.nodup_append.mp nd2
  refine ⟨w.rows.but But.set (w.nri List.mem_cons_self).symm, fun p hp => ?_, fun p hp => ?_, w.nd⟩
  · have ne : p.1 ≠ v := fun e => nd3.2.2 p.1 (List.mem_map.mpr ⟨p, hp, rfl⟩) v List.mem_cons_self e
    obtain ⟨vs, h1, h2⟩ := w.la p hp
    exact ⟨vs, by rw [upd_ne ne]; exact h1, ImL.mono (.setD hx) _ h2⟩
  · rcases List.mem_cons.mp hp with e | hp
    · rw [e]; exact upd_same
    · have ne : p.1 ≠ v := fun e => by
        have n3 := (List.nodup_cons.mp nd3.2.1).1
        exact n3 (by rw [← e]; exact List.mem_map.mpr ⟨p, hp, rfl⟩)
      rw [upd_ne ne]
      exact w.ia p (List.mem_cons.mpr (.inr hp))
def sp_law (K : PySem.W.Frag) : Sp := fun vs H Q _ => ∃ (a : Addr) (ns : List Int), vs = [.ref a] ∧ SqL K H a (ns.map V.int) ∧ ns.length ≤ 63 ∧ ∀ H', Q (.bl true) H'
set_option maxHeartbeats 8000000 in
theorem ok_law {f : Addr} {fd : FuncData} {CF : Addr} (TF : Ck_Frame K mg CF) {f_Frame___init__ : Addr} (MF : Mk K CF f_Frame___init__) (D : Df K mg "law" s_law ["script"] f fd) (T : Txt K mg) {f_view_bounds : Addr} {fd_view_bounds : FuncData} (D_view_bounds : Df K mg "view_bounds" s_view_bounds ["frame", "view"] f_view_bounds fd_view_bounds) (G_view_bounds : FnOk P w K mg base CX0 5 f_view_bounds fd_view_bounds ["frame", "view"] (sp_view_bounds K CF)) {f__law_draws : Addr} {fd__law_draws : FuncData} (D__law_draws : Df K mg "_law_draws" s__law_draws ["script", "count"] f__law_draws fd__law_draws) (G__law_draws : FnOk P w K mg base CX0 1 f__law_draws fd__law_draws ["script", "count"] (sp__law_draws K)) {f__law_take : Addr} {fd__law_take : FuncData} (D__law_take : Df K mg "_law_take" s__law_take ["rows", "at", "many"] f__law_take fd__law_take) (G__law_take : FnOk P w K mg base CX0 1 f__law_take fd__law_take ["rows", "at", "many"] (sp__law_take K)) {f__law_kinds : Addr} {fd__law_kinds : FuncData} (D__law_kinds : Df K mg "_law_kinds" s__law_kinds ["rows", "at"] f__law_kinds fd__law_kinds) (G__law_kinds : FnOk P w K mg base CX0 2 f__law_kinds fd__law_kinds ["rows", "at"] (sp__law_kinds K)) {f__law_run : Addr} {fd__law_run : FuncData} (D__law_run : Df K mg "_law_run" s__law_run ["clock", "rows", "amount", "kinds"] f__law_run fd__law_run) (G__law_run : FnOk P w K mg base CX0 2 f__law_run fd__law_run ["clock", "rows", "amount", "kinds"] (sp__law_run K)) {f__law_begin : Addr} {fd__law_begin : FuncData} (D__law_begin : Df K mg "_law_begin" s__law_begin ["clock", "rows", "kinds"] f__law_begin fd__law_begin) (G__law_begin : FnOk P w K mg base CX0 2 f__law_begin fd__law_begin ["clock", "rows", "kinds"] (sp__law_begin K)) {f__law_deed : Addr} {fd__law_deed : FuncData} (D__law_deed : Df K mg "_law_deed" s__law_deed ["rows", "at", "clock", "kinds"] f__law_deed fd__law_deed) (G__law_deed : FnOk P w K mg base CX0 3 f__law_deed fd__law_deed ["rows", "at", "clock", "kinds"] (sp__law_deed K)) {fd_Frame___init__ : FuncData} (M_Frame___init__ : Mt K CF "__init__" "Frame.__init__" s_Frame___init__ ["self", "devices", "clocks", "links", "sources", "faults"] f_Frame___init__ fd_Frame___init__) (G_Frame___init__ : FnOk P w K mg base CX0 1 f_Frame___init__ fd_Frame___init__ ["self", "devices", "clocks", "links", "sources", "faults"] (sp_Frame___init__ K CF)) : FnOk P w K mg base CX0 6 f fd ["script"] (sp_law K) := by
  refine D.F.ok sc_law (fun vs H Q E h => ?_) (fun cdv A outer s H vs Q E hr h => ?_)
  · obtain ⟨a, ns, rfl, _⟩ := h
    rfl
  obtain ⟨a, ns, rfl, hS, h63, q⟩ := h
  refine ⟨_, (pss_cons (ps_set (i := 1) sc_law.nd rfl (Or.inl rfl) (pe_call G__law_draws (hr.mono (by decide)) rfl D__law_draws.m D__law_draws.F.kp D__law_draws.b .nil pass0 (pa_cons (pv 0) (pa_cons pe_int pa_nil))))
    (pss_cons (ps_set (i := 2) sc_law.nd rfl (Or.inl rfl) (pe_call G__law_kinds (hr.mono (by decide)) rfl D__law_kinds.m D__law_kinds.F.kp D__law_kinds.b .nil pass0 (pa_cons (pv 1) (pa_cons pe_int pa_nil))))
    (pss_cons (ps_set (i := 3) sc_law.nd rfl (Or.inl rfl) (pe_cmpR op_eq (pe_call G__law_take (hr.mono (by decide)) rfl D__law_take.m D__law_take.F.kp D__law_take.b .nil pass0 (pa_cons (pv 1) (pa_cons pe_int (pa_cons pe_int pa_nil)))) pe_int (nomark _)))
    (pss_cons (ps_set (i := 4) sc_law.nd rfl (Or.inl rfl) (pe_make MF G_Frame___init__ (hr.mono (by decide)) rfl TF.mg M_Frame___init__.b .nil pass0 (pa_cons (pe_lst (pa_cons pe_str pa_nil)) (pa_cons (pe_lst (pa_cons (pe_tup (pa_cons pe_str (pa_cons pe_int (pa_cons (pv 3) (pa_cons (pv 2) pa_nil))))) pa_nil)) (pa_cons (pe_lst pa_nil) (pa_cons (pe_lst pa_nil) (pa_cons pe_int pa_nil)))))))
    (pss_cons (ps_set (i := 5) sc_law.nd rfl (Or.inl rfl) (pe_lst (pa_cons (pe_op op_sub (pe_call G__law_take (hr.mono (by decide)) rfl D__law_take.m D__law_take.F.kp D__law_take.b .nil pass0 (pa_cons (pv 1) (pa_cons pe_int (pa_cons pe_int pa_nil)))) pe_int) (pa_cons pe_int (pa_cons pe_int (pa_cons pe_int (pa_cons pe_int (pa_cons pe_int pa_nil))))))))
    (pss_cons (ps_expr (pe_call G__law_begin (hr.mono (by decide)) rfl D__law_begin.m D__law_begin.F.kp D__law_begin.b .nil pass0 (pa_cons (pv 5) (pa_cons (pv 1) (pa_cons (pv 2) pa_nil)))))
    (pss_cons (ps_set (i := 6) sc_law.nd rfl (Or.inl rfl) (pe_op op_sub (pe_call G__law_take (hr.mono (by decide)) rfl D__law_take.m D__law_take.F.kp D__law_take.b .nil pass0 (pa_cons (pv 1) (pa_cons pe_int (pa_cons pe_int pa_nil)))) pe_int))
    (C8.pss_cut (ps_set (i := 7) sc_law.nd rfl (Or.inl rfl) (pe_dispT (hu_of hr) (pps_cons (pe_tup (pa_cons (pe_un un_neg pe_int) (pa_cons pe_int (pa_cons (pe_un un_neg pe_int) pa_nil)))) pe_int (pps_cons (pe_tup (pa_cons pe_int (pa_cons pe_int (pa_cons (pe_un un_neg pe_int) pa_nil)))) (pv 6) pps_nil)) (by rfl) (by rfl) (by simp) (by decide)))
    (C8.pss_cut (ps_set (i := 8) sc_law.nd rfl (Or.inl rfl) (pe_lst (pa_cons (pe_tup (pa_cons pe_bl (pa_cons (pe_tup pa_nil) (pa_cons (pe_tup pa_nil) (pa_cons (pe_tup (pa_cons pe_str pa_nil)) (pa_cons (pe_tup (pa_cons pe_int pa_nil)) pa_nil)))))) pa_nil)))
    (pss_cons (ps_for PassesOwn.never rfl (pi_range2 rfl T.range (pa_cons pe_int (pa_cons (pe_op op_add pe_int (pe_call G__law_take (hr.mono (by decide)) rfl D__law_take.m D__law_take.F.kp D__law_take.b .nil pass0 (pa_cons (pv 1) (pa_cons pe_int (pa_cons pe_int pa_nil))))) pa_nil))) (pg_name (i := 9) sc_law.nd rfl (Or.inl rfl))
      (C8.pss_cut (ps_set (i := 10) sc_law.nd rfl (Or.inl rfl) (pv 9))
    (C8.pss_cut (ps_set (i := 11) sc_law.nd rfl (Or.inl rfl) (pe_cmpR op_eq (pe_call G__law_take (hr.mono (by decide)) rfl D__law_take.m D__law_take.F.kp D__law_take.b .nil pass0 (pa_cons (pv 1) (pa_cons (pv 10) (pa_cons pe_int pa_nil)))) pe_int (nomark _)))
    (C8.pss_cut (ps_set (i := 12) sc_law.nd rfl (Or.inl rfl) (pe_call G__law_take (hr.mono (by decide)) rfl D__law_take.m D__law_take.F.kp D__law_take.b .nil pass0 (pa_cons (pv 1) (pa_cons (pv 10) (pa_cons pe_int pa_nil)))))
    (C8.pss_cut (ps_set (i := 6) sc_law.nd rfl (Or.inl rfl) (pe_op op_add (pv 6) (pv 12)))
    (C8.pss_cut (ps_if (PW.pt (pw_or (pt_val (pv 3)) (pw_or1 (pt_not (pt_val (pv 11))))))
      (pss_one (ps_expr (pe_call G__law_run (hr.mono (by decide)) rfl D__law_run.m D__law_run.F.kp D__law_run.b .nil pass0 (pa_cons (pv 5) (pa_cons (pv 1) (pa_cons (pv 12) (pa_cons (pv 2) pa_nil)))))))
      pss_nil)
    (C8.pss_cut (ps_dput (hu_of hr) (pv 7) (pe_tup (pa_cons pe_int (pa_cons (pv 9) (pa_cons (pe_un un_neg pe_int) pa_nil)))) (pv 6) rfl)
    (C8.pss_cut (ps_dput (hu_of hr) (pv 7) (pe_tup (pa_cons pe_int (pa_cons (pv 9) (pa_cons pe_int pa_nil)))) (pe_op op_sub (pv 6) (pe_ix ix_list (pv 5) pe_int (fun _ _ => rfl))) rfl)
    (C8.pss_cut (ps_set (i := 13) sc_law.nd rfl (Or.inl rfl) (pe_ix ix_list (pv 5) pe_int (fun _ _ => rfl)))
    (C8.pss_cut (ps_set (i := 14) sc_law.nd rfl (Or.inl rfl) (pe_call G__law_deed (hr.mono (by decide)) rfl D__law_deed.m D__law_deed.F.kp D__law_deed.b .nil pass0 (pa_cons (pv 1) (pa_cons (pv 10) (pa_cons (pv 5) (pa_cons (pv 2) pa_nil))))))
    (pss_one (ps_expr (pe_bm PySem.F.plainAttrs_list PySem.F.slot_list_append PySem.F.type_list_append mt_append (pv 8) (pa_cons (pe_tup (pa_cons (pv 11) (pa_cons (pe_tup (pa_cons (pv 13) pa_nil)) (pa_cons (pe_tup (pa_cons (pe_ix ix_list (pv 5) pe_int (fun _ _ => rfl)) pa_nil)) (pa_cons (pv 14) (pa_cons (pe_tup (pa_cons (pe_op op_add (pv 9) pe_int) pa_nil)) pa_nil)))))) pa_nil))))))))))))))
    (pss_cons (ps_for PassesOwn.never rfl (pi_list (pe_call G_view_bounds (hr.mono (by decide)) rfl D_view_bounds.m D_view_bounds.F.kp D_view_bounds.b .nil pass0 (pa_cons (pv 4) (pa_cons (pe_lst (pa_cons (pv 8) pa_nil)) pa_nil)))) (pg_tup rfl (pgs_cons (pg_name (i := 15) sc_law.nd rfl (Or.inl rfl)) (pgs_cons (pg_name (i := 16) sc_law.nd rfl (Or.inl rfl)) (pgs_cons (pg_name (i := 17) sc_law.nd rfl (Or.inl rfl)) (pgs_cons (pg_name (i := 18) sc_law.nd rfl (Or.inl rfl)) pgs_nil)))))
      (pss_one (ps_if (PW.pt (pw_or (pt_cmp (pc_dnotinS (hu_of hr) (pv 15) (pv 7))) (pw_or (pt_cmp (pc_dnotinS (hu_of hr) (pv 16) (pv 7))) (pw_or1 (pt_cmpR op_gt (pe_dgetS (hu_of hr) (pv 7) (pv 16) (fun _ _ => rfl)) (pe_op op_add (pe_dgetS (hu_of hr) (pv 7) (pv 15) (fun _ _ => rfl)) (pv 17)) (nomark _))))))
      (pss_one (ps_ret pe_bl))
      pss_nil)))
    (pss_one (ps_ret pe_bl))))))))))))), ?_⟩
  refine ⟨_, rfl, a, ns, 60, rfl, hS, by decide, by decide, fun r H1 rs1 s1 nr er lr => ?_⟩
  have r1 : RwAt H1 r 60 := ⟨rs1, er, lr⟩
  refine ⟨_, rfl, r, 0, 60, rfl, r1, by decide, by decide, fun kt H2 ks b2 r2 ik2 hks => ?_⟩
  refine ⟨_, rfl, r, 0, 2, 60, rfl, r2, by decide, by decide, by decide, by decide, fun gg H3 _ _ b3 r3 => ⟨rfl, ?_⟩⟩
  have ik3 := Im.mono (r2.tk b3) _ ik2
  have w3 : Wd K H3 r 60 [] [] := Wd.one r3
  generalize decide (V.int gg = V.int 1) = go
  obtain ⟨_, kws, e0, hkt, iks⟩ := Im.unks ik3
  cases e0
  refine ⟨(by show 1 ≤ sizeLine; decide), fun a4 n4 => ?_⟩
  generalize e4 : upd H3 a4 _ = H4
  obtain ⟨s4, h4⟩ := fr e4 n4
  clear e4
  refine ⟨_, rfl, _, rfl, (by show 4 ≤ sizeLine; decide), fun a5 n5 => ?_⟩
  generalize e5 : upd H4 a5 _ = H5
  obtain ⟨s5, h5⟩ := fr e5 n5
  clear e5
  refine ⟨(by show 1 ≤ sizeLine; decide), fun a6 n6 => ?_⟩
  generalize e6 : upd H5 a6 _ = H6
  obtain ⟨s6, h6⟩ := fr e6 n6
  clear e6
  refine ⟨(by show 0 ≤ sizeLine; decide), fun a7 n7 => ?_⟩
  generalize e7 : upd H6 a7 _ = H7
  obtain ⟨s7, h7⟩ := fr e7 n7
  clear e7
  refine ⟨(by show 0 ≤ sizeLine; decide), fun a8 n8 => ?_⟩
  generalize e8 : upd H7 a8 _ = H8
  obtain ⟨s8, h8⟩ := fr e8 n8
  clear e8
  have t7 := s7.trans s8
  have t6 := s6.trans t7
  have t5 := s5.trans t6
  have t4 := s4.trans t5
  have w9 := w3.keep t4
  intro x dx nx ndx nex
  have sx := mk_same (C := CF) nx ndx
  refine ⟨x, dx, a4, a6, a7, a8, _, _, _, _, _, rfl, upd_same, SqL.of (sx _ _ (t5 _ _ h4)), SqL.of (sx _ _ (t7 _ _ h6)), SqL.of (sx _ _ (s8 _ _ h7)), SqL.of (sx _ _ h8), fun d1 d2 d3 d4 H9 b9 hx f1 f2 f3 f4 m1 m2 m3 m4 nd => ⟨rfl, ?_⟩⟩
  obtain ⟨C, hC⟩ : ∃ C : Cl, C = ⟨"c", 0, go, ks⟩ := ⟨_, rfl⟩
  obtain ⟨F, hF⟩ : ∃ F : Fm, F = fm23 [C] := ⟨_, rfl⟩
  have hck : C.kinds = ks := by rw [hC]
  have hcg : C.goes = go := by rw [hC]
  have s89 : Same H8 H9 := fun c u hc => b9 _ _ (ne_of_none hc nx) (sx _ _ hc)
  have k9 : TupK H3 H9 := .of (t4.trans s89)
  have ik9 := Im.mono k9 _ ik3
  have w10 : Wd K H9 r 60 [(d1, F.devices.map PyData.str), (d2, F.clocks.map clP), (d3, F.links.map lkP), (d4, F.sources.map srP)] [(x, .ins CF dx (ff_Frame (.ref d1) (.ref d2) (.ref d3) (.ref d4) (.int 0)))] := by
    have icl : Im K H9 (clP C) (.ref a5) := by
      rw [hC]
      exact Im.mono (.of ((s6.trans t7).trans s89)) _ (clI (c := ⟨"c", 0, go, ks⟩) (SqT.of h5) ((TupK.of (s4.trans s5)).sq hkt) (ImL.mono (.of (s4.trans s5)) _ iks))
    rw [hF]
    exact (w9.made nx ndx b9 hx ⟨_, f1, ImL.cons_ Im.str_ ImL.nil_⟩ ⟨_, f2, ImL.cons_ icl ImL.nil_⟩ ⟨_, f3, ImL.nil_⟩ ⟨_, f4, ImL.nil_⟩ m1 m2 m3 m4 nd).2
  clear f1 f2 f3 f4 m1 m2 m3 m4 nd sx b9 hx h4 h5 h6 h7 h8 s4 s5 s6 s7 s8 t4 t5 t6 t7 n4 n5 n6 n7 n8 w9 nex ndx nx iks hkt k9 s89 ik3 ik2
  refine ⟨_, rfl, r, 0, 21, 60, rfl, w10.rows, by decide, by decide, by decide, by decide, fun v0 H10 _ _ b10 r10 => ⟨_, _, rfl, rfl, (by show 6 ≤ sizeLine; decide), fun cl ncl => ?_⟩⟩
  have ik10 := Im.mono (w10.tk b10) _ ik9
  have w11 := w10.take b10 r10
  clear w10 ik9
  obtain ⟨s11, h11⟩ := fr (rfl : upd H10 cl (.lst [V.int (v0 - 10), V.int 0, V.int 0, V.int 0, V.int 0, V.int 0]) = _) ncl
  have w12 := w11.new s11 ncl (ds := (Cs.ns ⟨v0 - 10, 0, 0, 0, 0⟩).map PyData.int) (LsI.ofInts (ns := Cs.ns ⟨v0 - 10, 0, 0, 0, 0⟩) h11)
  have ik12 := Im.mono (.of s11) _ ik10
  generalize upd H10 cl (.lst [V.int (v0 - 10), V.int 0, V.int 0, V.int 0, V.int 0, V.int 0]) = H12 at *
  clear w11 ik10
  refine ⟨_, rfl, _, rfl, _, rfl, cl, r, kt, 60, _, _, ⟨v0 - 10, 0, 0, 0, 0⟩, ks, rfl, w12, ik12, hks, ⟨by show (0 : Int) ≤ 0; decide, by rw [hks.len]; show (0 : Int) < 2; decide⟩, by show (0 : Int) ≤ 0; decide, by decide, fun v H13 l w13 k13 ok0 => ?_⟩
  have ik13 := Im.mono k13 _ ik12
  clear w12 ik12 k13
  obtain ⟨c0, hc0⟩ : ∃ c0 : Cs, c0 = ⟨v0 - 10, 0, 0, l, 0 + 1⟩ := ⟨_, rfl⟩
  have e0 : c0.e = 0 := by rw [hc0]
  have ek0 : c0.k = 0 := by rw [hc0]
  have w13 : Wd K H13 r 60 ((cl, c0.ns.map PyData.int) :: [(d1, F.devices.map PyData.str), (d2, F.clocks.map clP), (d3, F.links.map lkP), (d4, F.sources.map srP)]) [(x, .ins CF dx (ff_Frame (.ref d1) (.ref d2) (.ref d3) (.ref d4) (.int 0)))] := by rw [hc0]; exact w13
  have ok0 : CsOk ks c0 := by rw [hc0]; exact ok0
  clear hc0
  refine ⟨_, rfl, r, 1, 60, 60, rfl, w13.rows, by decide, by decide, by decide, by decide, fun t0 H14 _ _ b14 r14 => ⟨_, _, rfl, rfl, ?_⟩⟩
  have w14 := w13.take b14 r14
  have ik14 := Im.mono (w13.tk b14) _ ik13
  clear w13 ik13
  refine ⟨fun σ H' => ∃ (td : Addr) (kvs : List (List Key × V)), σ = [some (.ref a), some (.ref r), some (.ref kt), some (.bl go), some (.ref x), some (.ref cl), some (.int (t0 - 30)), some (.ref td), none, none, none, none, none, none, none, none, none, none, none] ∧ Wd K H' r 60 ((cl, c0.ns.map PyData.int) :: [(d1, F.devices.map PyData.str), (d2, F.clocks.map clP), (d3, F.links.map lkP), (d4, F.sources.map srP)]) [(td, .dT kvs), (x, .ins CF dx (ff_Frame (.ref d1) (.ref d2) (.ref d3) (.ref d4) (.int 0)))] ∧ kvs = [(keyP ⟨-1, 0, -1⟩, .int 0), (keyP ⟨0, 0, -1⟩, .int (t0 - 30))] ∧ Same H14 H', ?_, ?_⟩
  · intro td ntd
    obtain ⟨s15, h15⟩ := fr (rfl : upd H14 td (.dT []) = _) ntd
    generalize upd H14 td (.dT []) = H15 at *
    have w15 := w14.newI s15 ntd h15
    refine ⟨_, rfl, _, rfl, (by show 3 ≤ sizeLine; decide), fun a16 n16 => ?_⟩
    generalize e16 : upd H15 a16 _ = H16
    obtain ⟨s16, h16⟩ := fr e16 n16
    clear e16
    refine ⟨_, rfl, (by show 3 ≤ sizeLine; decide), fun a17 n17 => ?_⟩
    generalize e17 : upd H16 a17 _ = H17
    obtain ⟨s17, h17⟩ := fr e17 n17
    clear e17
    refine ⟨_, rfl, (s16.trans s17) _ _ h15, [(keyP ⟨-1, 0, -1⟩, a16, .int 0), (keyP ⟨0, 0, -1⟩, a17, .int (t0 - 30))], rfl, ?_, by show 2 ≤ 15; decide, td, _, rfl, (w15.keep (s16.trans s17)).putD, rfl, ?_⟩
    · intro z hz
      rcases List.mem_cons.mp hz with e | hz
      · rw [e]; exact s17 _ _ h16
      · rw [List.mem_singleton.mp hz]; exact h17
    · intro c u hc
      rw [upd_ne (ne_of_none hc ntd)]
      exact (s16.trans s17) _ _ (s15 _ _ hc)
  clear w14
  rintro σ H15 ⟨td, kvs0, rfl, w15, hkv, s15⟩
  have ik15 := Im.mono (.of s15) _ ik14
  refine ⟨fun σ H' => ∃ (ev : Addr), σ = [some (.ref a), some (.ref r), some (.ref kt), some (.bl go), some (.ref x), some (.ref cl), some (.int (t0 - 30)), some (.ref td), some (.ref ev), none, none, none, none, none, none, none, none, none, none] ∧ Wd K H' r 60 ((ev, (ev0 :: []).map evP) :: (cl, c0.ns.map PyData.int) :: [(d1, F.devices.map PyData.str), (d2, F.clocks.map clP), (d3, F.links.map lkP), (d4, F.sources.map srP)]) [(td, .dT kvs0), (x, .ins CF dx (ff_Frame (.ref d1) (.ref d2) (.ref d3) (.ref d4) (.int 0)))] ∧ Same H15 H', ?_, ?_⟩
  · refine ⟨(by show 0 ≤ sizeLine; decide), fun a11 n11 => ?_⟩
    generalize e11 : upd H15 a11 _ = H11
    obtain ⟨s11, h11⟩ := fr e11 n11
    clear e11
    refine ⟨(by show 0 ≤ sizeLine; decide), fun a12 n12 => ?_⟩
    generalize e12 : upd H11 a12 _ = H12
    obtain ⟨s12, h12⟩ := fr e12 n12
    clear e12
    refine ⟨(by show 1 ≤ sizeLine; decide), fun a13 n13 => ?_⟩
    generalize e13 : upd H12 a13 _ = H13
    obtain ⟨s13, h13⟩ := fr e13 n13
    clear e13
    refine ⟨(by show 1 ≤ sizeLine; decide), fun a14 n14 => ?_⟩
    generalize e14 : upd H13 a14 _ = H14
    obtain ⟨s14, h14⟩ := fr e14 n14
    clear e14
    refine ⟨(by show 5 ≤ sizeLine; decide), fun a19 n19 => ?_⟩
    generalize e19 : upd H14 a19 _ = H19
    obtain ⟨s19, h19⟩ := fr e19 n19
    clear e19
    refine ⟨(by show 1 ≤ sizeLine; decide), fun ev n16 => ?_⟩
    obtain ⟨s16, h16⟩ := fr (rfl : upd H19 ev (.lst [V.ref a19]) = _) n16
    have t19 := s19.trans s16
    have t14 := s14.trans t19
    have t13 := s13.trans t14
    have t12 := s12.trans t13
    have ie0 : Im K _ (evP ev0) (.ref a19) := evI (e := ev0) (SqT.of (s16 _ _ h19)) (intsI (ns := []) (SqT.of (t12 _ _ h11))) (intsI (ns := []) (SqT.of (t13 _ _ h12))) (ddI (d := ⟨0, []⟩) (z := "note") rfl (show (0 : Nat) ≠ 8 by decide) (SqT.of (t14 _ _ h13))) (intsI (ns := [1]) (SqT.of (t19 _ _ h14)))
    exact ⟨ev, rfl, (w15.keep (s11.trans (s12.trans (s13.trans (s14.trans s19))))).new s16 n16 ⟨_, h16, ImL.cons_ ie0 ImL.nil_⟩, s11.trans t12⟩
  clear w15
  rintro σ H16 ⟨ev, rfl, w16, s16⟩
  have ik16 := Im.mono (.of s16) _ ik15
  clear ik15 ik14
  have hcs : ∀ c ∈ [C], ClK23 c := fun c h => by
    rw [List.mem_singleton.mp h, hC]
    exact ⟨rfl, by show 0 < ks.length ∧ ks.length ≤ 2; rw [hks.len]; decide, fun k hk => by
      obtain ⟨z, z1, z2, z3, z4⟩ := hks.ks k hk
      exact ⟨in18 (by omega) (by omega), z, z1, in18 (by omega) (by omega)⟩⟩
  have hlo : ∀ c : Cs, CsOk ks c → 0 ≤ loK C.kinds c.k := fun c h => by
    obtain ⟨_, _, _, z, _⟩ := hks.at h.k6
    rw [hck]; omega
  have j0 : J24 C [] kvs0 (t0 - 30) c0 := by
    have ck : cks (fm23 [C]) 0 = [0] := cks23 hcs
    have v0 : ∀ q, tOf kvs0 q = if q = ⟨-1, 0, -1⟩ then some 0 else if q = ⟨0, 0, -1⟩ then some (t0 - 30) else none := fun q => by
      rw [hkv]
      unfold tOf
      by_cases e1 : q = ⟨-1, 0, -1⟩
      · rw [e1, valV_pos rfl, if_pos rfl]
      · rw [if_neg e1, valV_neg (fun z => e1 (keyP_inj z).symm)]
        by_cases e2 : q = ⟨0, 0, -1⟩
        · rw [e2, valV_pos rfl, if_pos rfl]
        · rw [if_neg e2, valV_neg (fun z => e2 (keyP_inj z).symm)]
          rfl
    refine ⟨by rw [hkv]; show 2 ≤ 2 + 2 * 0; decide, fun q z hq => ?_, ?_, fun b hb => (by cases hb), ⟨dfH, ?_, ⟨ek0.symm, fun q hq => (by cases hq)⟩⟩, by rw [hck]; exact ok0, fun e h => (by cases h)⟩
    · rw [v0] at hq
      split at hq
      · rename_i e1; rw [e1]; decide
      · split at hq
        · rename_i e1; rw [e1]; decide
        · cases hq
    · rw [v0, if_neg (by decide)]
      rfl
    · show List.replicate (cks (fm23 [C]) 0).length dfH = _
      rw [ck]
      rfl
  refine ⟨_, rfl, r, 1, 9, 60, rfl, w16.rows, by decide, by decide, by decide, by decide, fun cnt H17 c0' c9 b17 r17 => ?_⟩
  have w17 := w16.take b17 r17
  have ik17 := Im.mono (w16.tk b17) _ ik16
  clear w16 ik16
  have w17 := w17.perm (List.Perm.swap _ _ _)
  refine ⟨_, _, rfl, rfl, _, _, rfl, ⟨by omega, by omega, by omega, by omega⟩, for_range (lo := 1) (n := (1 + cnt - 1).toNat) (fun i σ H' => ∃ (es : List Ev) (kvs : List (List Key × V)) (T : Int) (c : Cs), ∃ v9 v10 v11 v12 v13 v14, σ = [some (.ref a), some (.ref r), some (.ref kt), some (.bl go), some (.ref x), some (.ref cl), some (.int T), some (.ref td), some (.ref ev), v9, v10, v11, v12, v13, v14, none, none, none, none] ∧ Wd K H' r 60 ((cl, (c).ns.map PyData.int) :: (ev, (ev0 :: es).map evP) :: [(d1, F.devices.map PyData.str), (d2, F.clocks.map clP), (d3, F.links.map lkP), (d4, F.sources.map srP)]) [(td, .dT kvs), (x, .ins CF dx (ff_Frame (.ref d1) (.ref d2) (.ref d3) (.ref d4) (.int 0)))] ∧ TupK H17 H' ∧ es.length = i ∧ J24 C es kvs T c) ⟨[], kvs0, (t0 - 30), c0, _, _, _, _, _, _, rfl, w17, TupK.refl _, rfl, j0⟩ ?_ ?_⟩
  · clear w17 j0
    rintro i σ H20 hi ⟨es, kvs, T, c, v9, v10, v11, v12, v13, v14, rfl, w20, k20, hel, j⟩
    subst hel
    have hi8 : es.length < 9 := by omega
    have hat0 : 0 ≤ 1 + (es.length : Int) := by omega
    have hat1 : 1 + (es.length : Int) < ((60 : Nat) : Int) := by omega
    refine ⟨fun σ H' => σ = [some (.ref a), some (.ref r), some (.ref kt), some (.bl go), some (.ref x), some (.ref cl), some (.int T), some (.ref td), some (.ref ev), some (.int (1 + (es.length : Int))), some (.int (1 + (es.length : Int))), v11, v12, v13, v14, none, none, none, none] ∧ H20 = H', ?_, ?_⟩
    · exact ⟨_, rfl, rfl, rfl⟩
    rintro σ H' ⟨rfl, rfl⟩
    refine ⟨fun σ H' => ∃ as : Bool, σ = [some (.ref a), some (.ref r), some (.ref kt), some (.bl go), some (.ref x), some (.ref cl), some (.int T), some (.ref td), some (.ref ev), some (.int (1 + (es.length : Int))), some (.int (1 + (es.length : Int))), some (.bl as), v12, v13, v14, none, none, none, none] ∧ Wd K H' r 60 ((cl, (c).ns.map PyData.int) :: (ev, (ev0 :: es).map evP) :: [(d1, F.devices.map PyData.str), (d2, F.clocks.map clP), (d3, F.links.map lkP), (d4, F.sources.map srP)]) [(td, .dT kvs), (x, .ins CF dx (ff_Frame (.ref d1) (.ref d2) (.ref d3) (.ref d4) (.int 0)))] ∧ TupK H17 H', ?_, ?_⟩
    · exact ⟨_, rfl, _, rfl, r, _, 4, 60, rfl, w20.rows, hat0, hat1, by decide, by decide, fun q H' _ _ b rr => ⟨rfl, _, rfl, w20.take b rr, k20.trans (w20.tk b)⟩⟩
    clear w20 k20
    rintro σ H21 ⟨as, rfl, w21, k21⟩
    refine ⟨fun σ H' => ∃ g : Int, σ = [some (.ref a), some (.ref r), some (.ref kt), some (.bl go), some (.ref x), some (.ref cl), some (.int T), some (.ref td), some (.ref ev), some (.int (1 + (es.length : Int))), some (.int (1 + (es.length : Int))), some (.bl as), some (.int g), v13, v14, none, none, none, none] ∧ Wd K H' r 60 ((cl, (c).ns.map PyData.int) :: (ev, (ev0 :: es).map evP) :: [(d1, F.devices.map PyData.str), (d2, F.clocks.map clP), (d3, F.links.map lkP), (d4, F.sources.map srP)]) [(td, .dT kvs), (x, .ins CF dx (ff_Frame (.ref d1) (.ref d2) (.ref d3) (.ref d4) (.int 0)))] ∧ TupK H17 H' ∧ 0 ≤ g ∧ g < 31, ?_, ?_⟩
    · exact ⟨_, rfl, _, rfl, r, _, 31, 60, rfl, w21.rows, hat0, hat1, by decide, by decide, fun q H' q0 q1 b rr => ⟨_, rfl, w21.take b rr, k21.trans (w21.tk b), q0, q1⟩⟩
    clear w21 k21
    rintro σ H22 ⟨g, rfl, w22, k22, g0, g31⟩
    refine ⟨fun σ H' => σ = [some (.ref a), some (.ref r), some (.ref kt), some (.bl go), some (.ref x), some (.ref cl), some (.int (T + g)), some (.ref td), some (.ref ev), some (.int (1 + (es.length : Int))), some (.int (1 + (es.length : Int))), some (.bl as), some (.int g), v13, v14, none, none, none, none] ∧ H22 = H', ?_, ?_⟩
    · exact ⟨_, rfl, _, rfl, _, _, rfl, rfl, rfl, rfl⟩
    rintro σ H' ⟨rfl, rfl⟩
    have okc : CsOk ks c := by rw [← hck]; exact j.ok
    refine ⟨fun σ H' => ∃ d : Cs, σ = [some (.ref a), some (.ref r), some (.ref kt), some (.bl go), some (.ref x), some (.ref cl), some (.int (T + g)), some (.ref td), some (.ref ev), some (.int (1 + (es.length : Int))), some (.int (1 + (es.length : Int))), some (.bl as), some (.int g), v13, v14, none, none, none, none] ∧ Wd K H' r 60 ((cl, (d).ns.map PyData.int) :: (ev, (ev0 :: es).map evP) :: [(d1, F.devices.map PyData.str), (d2, F.clocks.map clP), (d3, F.links.map lkP), (d4, F.sources.map srP)]) [(td, .dT kvs), (x, .ins CF dx (ff_Frame (.ref d1) (.ref d2) (.ref d3) (.ref d4) (.int 0)))] ∧ TupK H17 H' ∧ Went ks go as c d g, ?_, ?_⟩
    · have run : ∀ (hb : (go || !as) = true) (v : V) (H' : Hp) (d : Cs), Wd K H' r 60 ((cl, (d).ns.map PyData.int) :: (ev, (ev0 :: es).map evP) :: [(d1, F.devices.map PyData.str), (d2, F.clocks.map clP), (d3, F.links.map lkP), (d4, F.sources.map srP)]) [(td, .dT kvs), (x, .ins CF dx (ff_Frame (.ref d1) (.ref d2) (.ref d3) (.ref d4) (.int 0)))] → TupK H22 H' → Ran ks c d g → ∃ d : Cs, [some (.ref a), some (.ref r), some (.ref kt), some (.bl go), some (.ref x), some (.ref cl), some (.int (T + g)), some (.ref td), some (.ref ev), some (.int (1 + (es.length : Int))), some (.int (1 + (es.length : Int))), some (.bl as), some (.int g), v13, v14, none, none, none, none] = [some (.ref a), some (.ref r), some (.ref kt), some (.bl go), some (.ref x), some (.ref cl), some (.int (T + g)), some (.ref td), some (.ref ev), some (.int (1 + (es.length : Int))), some (.int (1 + (es.length : Int))), some (.bl as), some (.int g), v13, v14, none, none, none, none] ∧ Wd K H' r 60 ((cl, (d).ns.map PyData.int) :: (ev, (ev0 :: es).map evP) :: [(d1, F.devices.map PyData.str), (d2, F.clocks.map clP), (d3, F.links.map lkP), (d4, F.sources.map srP)]) [(td, .dT kvs), (x, .ins CF dx (ff_Frame (.ref d1) (.ref d2) (.ref d3) (.ref d4) (.int 0)))] ∧ TupK H17 H' ∧ Went ks go as c d g := fun hb v H' d x1 x2 x3 => ⟨d, rfl, x1, k22.trans x2, by unfold Went; rw [if_pos hb]; exact x3⟩
      cases go with
      | true =>
        refine ⟨_, rfl, true, rfl, ?_⟩
        refine iteT ?_
        exact ⟨_, rfl, _, rfl, _, rfl, _, rfl, cl, r, kt, 60, _, _, c, ks, g, rfl, w22, Im.mono k22 _ ik17, hks, okc, g0, by omega, by decide, run rfl⟩
      | false =>
        cases as with
        | true =>
          refine ⟨_, rfl, false, rfl, ?_⟩
          refine iteF ?_
          refine ⟨_, rfl, true, rfl, ?_⟩
          first | exact iteT ⟨c, rfl, w22, k22, rfl⟩ | exact iteF ⟨c, rfl, w22, k22, rfl⟩
        | false =>
          refine ⟨_, rfl, false, rfl, ?_⟩
          refine iteF ?_
          refine ⟨_, rfl, false, rfl, ?_⟩
          first | refine iteF ?_ | refine iteT ?_
          exact ⟨_, rfl, _, rfl, _, rfl, _, rfl, cl, r, kt, 60, _, _, c, ks, g, rfl, w22, Im.mono k22 _ ik17, hks, okc, g0, by omega, by decide, run rfl⟩
    clear w22 k22
    rintro σ H23 ⟨d, rfl, w23, k23, went⟩
    have okd : CsOk ks d := by
      unfold Went at went
      split at went
      · exact went.ok
      · rw [went]; exact okc
    have hkl := j.kl
    refine ⟨fun σ H' => σ = [some (.ref a), some (.ref r), some (.ref kt), some (.bl go), some (.ref x), some (.ref cl), some (.int (T + g)), some (.ref td), some (.ref ev), some (.int (1 + (es.length : Int))), some (.int (1 + (es.length : Int))), some (.bl as), some (.int g), v13, v14, none, none, none, none] ∧ Wd K H' r 60 ((cl, (d).ns.map PyData.int) :: (ev, (ev0 :: es).map evP) :: [(d1, F.devices.map PyData.str), (d2, F.clocks.map clP), (d3, F.links.map lkP), (d4, F.sources.map srP)]) [(td, .dT (putK kvs (keyP ⟨0, 1 + (es.length : Int), -1⟩) (.int (T + g)))), (x, .ins CF dx (ff_Frame (.ref d1) (.ref d2) (.ref d3) (.ref d4) (.int 0)))] ∧ TupK H17 H', ?_, ?_⟩
    · refine ⟨_, rfl, _, rfl, _, rfl, _, rfl, (by show 3 ≤ sizeLine; decide), fun a30 n30 => ?_⟩
      generalize e30 : upd H23 a30 _ = H30
      obtain ⟨s30, h30⟩ := fr e30 n30
      clear e30
      have hd := (w23.keep s30).ati 0 rfl
      exact ⟨_, _, rfl, DPut.t (k := keyP ⟨0, 1 + (es.length : Int), -1⟩) hd h30 (sizes' (by omega)), rfl, (w23.keep s30).putD, (k23.trans (.of s30)).trans (.setD hd)⟩
    clear w23 k23
    rintro σ H24 ⟨rfl, w24, k24⟩
    refine ⟨fun σ H' => σ = [some (.ref a), some (.ref r), some (.ref kt), some (.bl go), some (.ref x), some (.ref cl), some (.int (T + g)), some (.ref td), some (.ref ev), some (.int (1 + (es.length : Int))), some (.int (1 + (es.length : Int))), some (.bl as), some (.int g), v13, v14, none, none, none, none] ∧ Wd K H' r 60 ((cl, (d).ns.map PyData.int) :: (ev, (ev0 :: es).map evP) :: [(d1, F.devices.map PyData.str), (d2, F.clocks.map clP), (d3, F.links.map lkP), (d4, F.sources.map srP)]) [(td, .dT (putK (putK kvs (keyP ⟨0, 1 + (es.length : Int), -1⟩) (.int (T + g))) (keyP ⟨0, 1 + (es.length : Int), 0⟩) (.int (T + g - d.e)))), (x, .ins CF dx (ff_Frame (.ref d1) (.ref d2) (.ref d3) (.ref d4) (.int 0)))] ∧ TupK H17 H', ?_, ?_⟩
    · have hc := (w24.at 0 rfl).toInts
      refine ⟨_, rfl, _, rfl, _, _, _, _, rfl, rfl, SqL.of hc, at_of (j := 3) rfl rfl, _, _, rfl, rfl, _, rfl, _, rfl, (by show 3 ≤ sizeLine; decide), fun a31 n31 => ?_⟩
      generalize e31 : upd H24 a31 _ = H31
      obtain ⟨s31, h31⟩ := fr e31 n31
      clear e31
      have hd := (w24.keep s31).ati 0 rfl
      have l1 := length_putK kvs (keyP ⟨0, 1 + (es.length : Int), -1⟩) (.int (T + g))
      exact ⟨_, _, rfl, DPut.t (k := keyP ⟨0, 1 + (es.length : Int), 0⟩) hd h31 (sizes' (by omega)), rfl, (w24.keep s31).putD, (k24.trans (.of s31)).trans (.setD hd)⟩
    clear w24 k24
    rintro σ H25 ⟨rfl, w25, k25⟩
    have hc := (w25.at 0 rfl).toInts
    refine ⟨fun σ H' => σ = [some (.ref a), some (.ref r), some (.ref kt), some (.bl go), some (.ref x), some (.ref cl), some (.int (T + g)), some (.ref td), some (.ref ev), some (.int (1 + (es.length : Int))), some (.int (1 + (es.length : Int))), some (.bl as), some (.int g), some (.int d.v), v14, none, none, none, none] ∧ H25 = H', ?_, ?_⟩
    · exact ⟨_, rfl, _, _, _, _, rfl, rfl, SqL.of hc, at_of (j := 0) rfl rfl, rfl, rfl⟩
    rintro σ H' ⟨rfl, rfl⟩
    refine ⟨fun σ H' => ∃ (da : Addr) (f : Cs) (D : Dd), σ = [some (.ref a), some (.ref r), some (.ref kt), some (.bl go), some (.ref x), some (.ref cl), some (.int (T + g)), some (.ref td), some (.ref ev), some (.int (1 + (es.length : Int))), some (.int (1 + (es.length : Int))), some (.bl as), some (.int g), some (.int d.v), some (.ref da), none, none, none, none] ∧ Wd K H' r 60 ((cl, (f).ns.map PyData.int) :: (ev, (ev0 :: es).map evP) :: [(d1, F.devices.map PyData.str), (d2, F.clocks.map clP), (d3, F.links.map lkP), (d4, F.sources.map srP)]) [(td, .dT (putK (putK kvs (keyP ⟨0, 1 + (es.length : Int), -1⟩) (.int (T + g))) (keyP ⟨0, 1 + (es.length : Int), 0⟩) (.int (T + g - d.e)))), (x, .ins CF dx (ff_Frame (.ref d1) (.ref d2) (.ref d3) (.ref d4) (.int 0)))] ∧ TupK H17 H' ∧ Im K H' (ddP D) (.ref da) ∧ Done ks d f D ∧ CsOk ks f, ?_, ?_⟩
    · exact ⟨_, rfl, _, rfl, _, rfl, _, rfl, r, cl, kt, _, 60, _, _, d, ks, rfl, w25, Im.mono k25 _ ik17, hks, okd, hat0, hat1, by decide, fun da H' f D x1 x2 x3 x4 x5 => ⟨da, f, D, rfl, x1, k25.trans x2, x3, x4, x5⟩⟩
    clear w25 k25 hc
    rintro σ H26 ⟨da, f, D, rfl, w26, k26, id26, dn, okf⟩
    have hc := (w26.at 0 rfl).toInts
    obtain ⟨xe, hxe, ixe⟩ := w26.at 1 rfl
    have hxl := ixe.len
    rw [List.length_map, List.length_cons] at hxl
    refine ⟨_, rfl, .inl ⟨rfl, _, SqL.of hxe⟩, _, rfl, _, rfl, (by show 1 ≤ sizeLine; decide), fun a32 n32 => ?_⟩
    generalize e32 : upd H26 a32 _ = H32
    obtain ⟨s32, h32⟩ := fr e32 n32
    clear e32
    refine ⟨_, rfl, _, _, _, _, rfl, rfl, SqL.of (s32 _ _ hc), at_of (j := 0) rfl rfl, (by show 1 ≤ sizeLine; decide), fun a33 n33 => ?_⟩
    generalize e33 : upd H32 a33 _ = H33
    obtain ⟨s33, h33⟩ := fr e33 n33
    clear e33
    refine ⟨_, rfl, _, rfl, _, _, rfl, rfl, (by show 1 ≤ sizeLine; decide), fun a34 n34 => ?_⟩
    generalize e34 : upd H33 a34 _ = H34
    obtain ⟨s34, h34⟩ := fr e34 n34
    clear e34
    refine ⟨(by show 5 ≤ sizeLine; decide), fun a35 n35 => ?_⟩
    generalize e35 : upd H34 a35 _ = H35
    obtain ⟨s35, h35⟩ := fr e35 n35
    clear e35
    have t34 := s34.trans s35
    have t33 := s33.trans t34
    have t32 := s32.trans t33
    have ie : Im K H35 (evP ⟨as, [d.v], [f.v], D, [1 + (es.length : Int) + 1]⟩) (.ref a35) := evI (e := ⟨as, [d.v], [f.v], D, [1 + (es.length : Int) + 1]⟩) (SqT.of h35) (intsI (ns := [d.v]) (SqT.of (t33 _ _ h32))) (intsI (ns := [f.v]) (SqT.of (t34 _ _ h33))) (Im.mono (.of t32) _ id26) (intsI (ns := [1 + (es.length : Int) + 1]) (SqT.of (s35 _ _ h34)))
    obtain ⟨x36, h36, l36, w36⟩ := (w26.keep t32).snoc 1 rfl ie
    rw [List.length_map, List.length_cons] at l36
    refine ⟨_, _, _, rfl, rfl, h36, by rw [l36]; exact sizes' (by omega), es ++ [⟨as, [d.v], [f.v], D, [1 + (es.length : Int) + 1]⟩], _, _, f, _, _, _, _, _, _, rfl, ?_, (k26.trans (.of t32)).trans (.set h36), by rw [List.length_append, List.length_singleton], J24.step hcs (hlo c okc) j (by rw [hck, hcg]; exact went) (by rw [hck]; exact dn) (by rw [hck]; exact okf) g0⟩
    rw [← List.cons_append, List.map_append]
    exact w36
  rintro σ H20 ⟨es, kvs, T, c, v9, v10, v11, v12, v13, v14, rfl, w20, k20, hel, j⟩
  have w20 := w20.perm (List.Perm.swap _ _ _)
  refine ⟨_, rfl, _, rfl, (by show 1 ≤ sizeLine; decide), fun a21 n21 => ?_⟩
  generalize e21 : upd H20 a21 _ = H21
  obtain ⟨s21, h21⟩ := fr e21 n21
  clear e21
  have w21 := w20.keep s21
  have hvw : VwI K H21 a21 [ev0 :: es] := ⟨[ev], h21, (Each.nil (P := RwI K H21)).snoc (a := ev) (x := ev0 :: es) (show RwI K H21 ev (ev0 :: es) from w21.at 0 rfl)⟩
  have hfr : FrI K CF H21 x F [x, d1, d2, d3, d4] := ⟨dx, d1, d2, d3, d4, rfl, by rw [hF]; exact w21.ati 1 rfl, w21.at 2 rfl, w21.at 3 rfl, w21.at 4 rfl, w21.at 5 rfl⟩
  refine ⟨x, a21, F, _, [ev0 :: es], rfl, hfr, hvw, by rw [hF]; exact fit23 hcs (by show 1 ≤ 2; decide) j.hes (by omega), fun tl H22 s22 ntl htl => ?_⟩
  rw [hF, vwB23] at htl
  obtain ⟨bs, hbs, ibs⟩ := htl
  have htd : H22 td = some (.dT kvs) := (w21.keep s22).ati 0 rfl
  refine ⟨_, rfl, ⟨_, SqL.of hbs⟩, for_list (K := K) (a := tl) (xs := bs) (fun i σ H' => H' = H22 ∧ ∃ v15 v16 v17 v18, σ = [some (.ref a), some (.ref r), some (.ref kt), some (.bl go), some (.ref x), some (.ref cl), some (.int T), some (.ref td), some (.ref ev), v9, v10, v11, v12, v13, v14, v15, v16, v17, v18]) ⟨rfl, _, _, _, _, rfl⟩ (fun i σ H' _ ⟨e, _⟩ => by rw [e]; exact SqL.of hbs) ?_ ?_⟩
  · rintro i y σ H' hy ⟨rfl, v15, v16, v17, v18, rfl⟩
    obtain ⟨dd, hdd, hdi⟩ := ibs.get' hy
    obtain ⟨b, hb, rfl⟩ := map_get hdd
    obtain ⟨p, q, m1, m2, mm⟩ := j.met b (List.mem_of_getElem? hb)
    obtain ⟨ba, vx, vy, rfl, hba, i1, i2⟩ := hdi.unbd
    obtain ⟨pa, rfl, hpa⟩ := i1.unpt
    obtain ⟨qa, rfl, hqa⟩ := i2.unpt
    refine ⟨_, _, rfl, hba, rfl, _, _, rfl, _, _, rfl, _, _, rfl, _, _, rfl, rfl, ?_⟩
    refine ⟨_, rfl, _, rfl, td, kvs, keyP b.one, pa, _, rfl, htd, rfl, hpa, tOf_val m1, _, rfl, iteF ?_⟩
    refine ⟨_, rfl, _, rfl, td, kvs, keyP b.two, qa, _, rfl, htd, rfl, hqa, tOf_val m2, _, rfl, iteF ?_⟩
    refine ⟨_, rfl, _, rfl, td, kvs, keyP b.two, qa, _, rfl, htd, rfl, hqa, tOf_val m2, ?_⟩
    refine ⟨_, rfl, _, rfl, td, kvs, keyP b.one, pa, _, rfl, htd, rfl, hpa, tOf_val m1, ?_⟩
    refine ⟨_, rfl, _, _, rfl, rfl, _, _, rfl, rfl, _, rfl, ite2 (fun g => ?_) (fun _ => ⟨rfl, _, _, _, _, rfl⟩)⟩
    have g : q > p + b.amount := of_decide_eq_true g
    omega
  rintro σ H' ⟨rfl, v15, v16, v17, v18, rfl⟩
  exact q _
end
theorem all_mk {l : PySem.W.OpenLaw} {w : World} {K : PySem.W.Frag} {h : Heap} {mg : Str → Option Value} {fa : Addr} (X : K.In h) (G : h.Ns mainGlobals mg) (hfa : mg "law" = some (.ref fa))
    {CF : Addr} {od0 an0 : Option Addr} {sl0 : Array (Option Value)} {oc0 kV0 dc0 pm0 cd0 ct0 : Value} {f0 : Addr} {od1 an1 : Option Addr} {sl1 : Array (Option Value)} {oc1 kV1 dc1 pm1 cd1 ct1 : Value} {f1 : Addr} {od2 an2 : Option Addr} {sl2 : Array (Option Value)} {oc2 kV2 dc2 pm2 cd2 ct2 : Value} {f2 : Addr} {od3 an3 : Option Addr} {sl3 : Array (Option Value)} {oc3 kV3 dc3 pm3 cd3 ct3 : Value} {f3 : Addr} {od4 an4 : Option Addr} {sl4 : Array (Option Value)} {oc4 kV4 dc4 pm4 cd4 ct4 : Value} {f4 : Addr} {od5 an5 : Option Addr} {sl5 : Array (Option Value)} {oc5 kV5 dc5 pm5 cd5 ct5 : Value} {f5 : Addr} {od6 an6 : Option Addr} {sl6 : Array (Option Value)} {oc6 kV6 dc6 pm6 cd6 ct6 : Value} {f6 : Addr} {od7 an7 : Option Addr} {sl7 : Array (Option Value)} {oc7 kV7 dc7 pm7 cd7 ct7 : Value} {f7 : Addr} {od8 an8 : Option Addr} {sl8 : Array (Option Value)} {oc8 kV8 dc8 pm8 cd8 ct8 : Value} {f8 : Addr} {od9 an9 : Option Addr} {sl9 : Array (Option Value)} {oc9 kV9 dc9 pm9 cd9 ct9 : Value} {f9 : Addr} {od10 an10 : Option Addr} {sl10 : Array (Option Value)} {oc10 kV10 dc10 pm10 cd10 ct10 : Value} {f10 : Addr} {od11 an11 : Option Addr} {sl11 : Array (Option Value)} {oc11 kV11 dc11 pm11 cd11 ct11 : Value} {f11 : Addr} {od12 an12 : Option Addr} {sl12 : Array (Option Value)} {oc12 kV12 dc12 pm12 cd12 ct12 : Value} {f12 : Addr} {od13 an13 : Option Addr} {sl13 : Array (Option Value)} {oc13 kV13 dc13 pm13 cd13 ct13 : Value} {f13 : Addr} {od14 an14 : Option Addr} {sl14 : Array (Option Value)} {oc14 kV14 dc14 pm14 cd14 ct14 : Value} {f14 : Addr} {od15 an15 : Option Addr} {sl15 : Array (Option Value)} {oc15 kV15 dc15 pm15 cd15 ct15 : Value} {f15 : Addr} {od16 an16 : Option Addr} {sl16 : Array (Option Value)} {oc16 kV16 dc16 pm16 cd16 ct16 : Value} {f16 : Addr} {od17 an17 : Option Addr} {sl17 : Array (Option Value)} {oc17 kV17 dc17 pm17 cd17 ct17 : Value} {f17 : Addr} {od18 an18 : Option Addr} {sl18 : Array (Option Value)} {oc18 kV18 dc18 pm18 cd18 ct18 : Value} {f18 : Addr} {od19 an19 : Option Addr} {sl19 : Array (Option Value)} {oc19 kV19 dc19 pm19 cd19 ct19 : Value} {f19 : Addr} {od20 an20 : Option Addr} {sl20 : Array (Option Value)} {oc20 kV20 dc20 pm20 cd20 ct20 : Value} {f20 : Addr} {od21 an21 : Option Addr} {sl21 : Array (Option Value)} {oc21 kV21 dc21 pm21 cd21 ct21 : Value} {f21 : Addr} {od22 an22 : Option Addr} {sl22 : Array (Option Value)} {oc22 kV22 dc22 pm22 cd22 ct22 : Value} {f22 : Addr} {od23 an23 : Option Addr} {sl23 : Array (Option Value)} {oc23 kV23 dc23 pm23 cd23 ct23 : Value} {f23 : Addr} {od24 an24 : Option Addr} {sl24 : Array (Option Value)} {oc24 kV24 dc24 pm24 cd24 ct24 : Value} {f24 : Addr} {t_NO_CLOCK : Tok} {t_NO_PART : Tok} {t_START0 t_START1 t_START2 : Tok} {a_START : Addr} {n_START : Nat} {sl_START : Array (Option Value)}
    (aC_Frame : PySem.W.nsIn K mainGlobals "Frame" = some (some (.ref CF))) (pg_Frame : PySem.W.plainGet K CF Str.empty = true) (hd_Frame : PySem.W.hasDictIn K CF = true) (po_Frame : PySem.W.plainOver K CF = true) (sa_Frame : PySem.W.findIn K (.ref CF) "__setattr__" = some (some (.builtin "object.__setattr__"))) (mk_Frame : PySem.W.makesIn K CF = true) (kc_Frame : PySem.W.keepIn K (.ref CF) = true) (n_Frame_devices : PySem.W.findIn K (.ref CF) "devices" = some none) (n_Frame_clocks : PySem.W.findIn K (.ref CF) "clocks" = some none) (n_Frame_links : PySem.W.findIn K (.ref CF) "links" = some none) (n_Frame_sources : PySem.W.findIn K (.ref CF) "sources" = some none) (n_Frame_faults : PySem.W.findIn K (.ref CF) "faults" = some none)
    (a0 : PySem.W.findIn K (.ref CF) "clocks_of" = some (some (.ref f0))) (i0 : PySem.W.isFn K (.ref f0) = true)
    (l0 : K.lookup f0 = some ⟨oc0, od0, .func (PySem.W.fnOf "clocks_of" "Frame.clocks_of" (defArgs s_Frame_clocks_of) (defBody s_Frame_clocks_of) (defScope s_Frame_clocks_of) .none kV0 dc0 pm0 an0 cd0 ct0), sl0⟩) (c0 : PySem.W.codeIn K cd0 "Frame.clocks_of" = true) (k0 : PySem.W.keepIn K (.ref f0) = true)
    (a1 : PySem.W.nsIn K mainGlobals "first_hands" = some (some (.ref f1)))
    (l1 : K.lookup f1 = some ⟨oc1, od1, .func (PySem.W.fnOf "first_hands" "first_hands" (defArgs s_first_hands) (defBody s_first_hands) (defScope s_first_hands) .none kV1 dc1 pm1 an1 cd1 ct1), sl1⟩) (c1 : PySem.W.codeIn K cd1 "first_hands" = true) (k1 : PySem.W.keepIn K (.ref f1) = true)
    (a2 : PySem.W.nsIn K mainGlobals "event_point" = some (some (.ref f2)))
    (l2 : K.lookup f2 = some ⟨oc2, od2, .func (PySem.W.fnOf "event_point" "event_point" (defArgs s_event_point) (defBody s_event_point) (defScope s_event_point) .none kV2 dc2 pm2 an2 cd2 ct2), sl2⟩) (c2 : PySem.W.codeIn K cd2 "event_point" = true) (k2 : PySem.W.keepIn K (.ref f2) = true)
    (a3 : PySem.W.nsIn K mainGlobals "at_least_later" = some (some (.ref f3)))
    (l3 : K.lookup f3 = some ⟨oc3, od3, .func (PySem.W.fnOf "at_least_later" "at_least_later" (defArgs s_at_least_later) (defBody s_at_least_later) (defScope s_at_least_later) .none kV3 dc3 pm3 an3 cd3 ct3), sl3⟩) (c3 : PySem.W.codeIn K cd3 "at_least_later" = true) (k3 : PySem.W.keepIn K (.ref f3) = true)
    (a4 : PySem.W.nsIn K mainGlobals "from_to_later" = some (some (.ref f4)))
    (l4 : K.lookup f4 = some ⟨oc4, od4, .func (PySem.W.fnOf "from_to_later" "from_to_later" (defArgs s_from_to_later) (defBody s_from_to_later) (defScope s_from_to_later) .none kV4 dc4 pm4 an4 cd4 ct4), sl4⟩) (c4 : PySem.W.codeIn K cd4 "from_to_later" = true) (k4 : PySem.W.keepIn K (.ref f4) = true)
    (a5 : PySem.W.nsIn K mainGlobals "running_since" = some (some (.ref f5)))
    (l5 : K.lookup f5 = some ⟨oc5, od5, .func (PySem.W.fnOf "running_since" "running_since" (defArgs s_running_since) (defBody s_running_since) (defScope s_running_since) .none kV5 dc5 pm5 an5 cd5 ct5), sl5⟩) (c5 : PySem.W.codeIn K cd5 "running_since" = true) (k5 : PySem.W.keepIn K (.ref f5) = true)
    (a6 : PySem.W.nsIn K mainGlobals "clock_bounds" = some (some (.ref f6)))
    (l6 : K.lookup f6 = some ⟨oc6, od6, .func (PySem.W.fnOf "clock_bounds" "clock_bounds" (defArgs s_clock_bounds) (defBody s_clock_bounds) (defScope s_clock_bounds) .none kV6 dc6 pm6 an6 cd6 ct6), sl6⟩) (c6 : PySem.W.codeIn K cd6 "clock_bounds" = true) (k6 : PySem.W.keepIn K (.ref f6) = true)
    (a7 : PySem.W.nsIn K mainGlobals "kind_given" = some (some (.ref f7)))
    (l7 : K.lookup f7 = some ⟨oc7, od7, .func (PySem.W.fnOf "kind_given" "kind_given" (defArgs s_kind_given) (defBody s_kind_given) (defScope s_kind_given) .none kV7 dc7 pm7 an7 cd7 ct7), sl7⟩) (c7 : PySem.W.codeIn K cd7 "kind_given" = true) (k7 : PySem.W.keepIn K (.ref f7) = true)
    (a8 : PySem.W.nsIn K mainGlobals "hand_after" = some (some (.ref f8)))
    (l8 : K.lookup f8 = some ⟨oc8, od8, .func (PySem.W.fnOf "hand_after" "hand_after" (defArgs s_hand_after) (defBody s_hand_after) (defScope s_hand_after) .none kV8 dc8 pm8 an8 cd8 ct8), sl8⟩) (c8 : PySem.W.codeIn K cd8 "hand_after" = true) (k8 : PySem.W.keepIn K (.ref f8) = true)
    (a9 : PySem.W.nsIn K mainGlobals "hands_after" = some (some (.ref f9)))
    (l9 : K.lookup f9 = some ⟨oc9, od9, .func (PySem.W.fnOf "hands_after" "hands_after" (defArgs s_hands_after) (defBody s_hands_after) (defScope s_hands_after) .none kV9 dc9 pm9 an9 cd9 ct9), sl9⟩) (c9 : PySem.W.codeIn K cd9 "hands_after" = true) (k9 : PySem.W.keepIn K (.ref f9) = true)
    (a10 : PySem.W.findIn K (.ref CF) "source_part" = some (some (.ref f10))) (i10 : PySem.W.isFn K (.ref f10) = true)
    (l10 : K.lookup f10 = some ⟨oc10, od10, .func (PySem.W.fnOf "source_part" "Frame.source_part" (defArgs s_Frame_source_part) (defBody s_Frame_source_part) (defScope s_Frame_source_part) .none kV10 dc10 pm10 an10 cd10 ct10), sl10⟩) (c10 : PySem.W.codeIn K cd10 "Frame.source_part" = true) (k10 : PySem.W.keepIn K (.ref f10) = true)
    (a11 : PySem.W.nsIn K mainGlobals "mark_bounds" = some (some (.ref f11)))
    (l11 : K.lookup f11 = some ⟨oc11, od11, .func (PySem.W.fnOf "mark_bounds" "mark_bounds" (defArgs s_mark_bounds) (defBody s_mark_bounds) (defScope s_mark_bounds) .none kV11 dc11 pm11 an11 cd11 ct11), sl11⟩) (c11 : PySem.W.codeIn K cd11 "mark_bounds" = true) (k11 : PySem.W.keepIn K (.ref f11) = true)
    (a12 : PySem.W.findIn K (.ref CF) "link_part" = some (some (.ref f12))) (i12 : PySem.W.isFn K (.ref f12) = true)
    (l12 : K.lookup f12 = some ⟨oc12, od12, .func (PySem.W.fnOf "link_part" "Frame.link_part" (defArgs s_Frame_link_part) (defBody s_Frame_link_part) (defScope s_Frame_link_part) .none kV12 dc12 pm12 an12 cd12 ct12), sl12⟩) (c12 : PySem.W.codeIn K cd12 "Frame.link_part" = true) (k12 : PySem.W.keepIn K (.ref f12) = true)
    (a13 : PySem.W.nsIn K mainGlobals "hear_bounds" = some (some (.ref f13)))
    (l13 : K.lookup f13 = some ⟨oc13, od13, .func (PySem.W.fnOf "hear_bounds" "hear_bounds" (defArgs s_hear_bounds) (defBody s_hear_bounds) (defScope s_hear_bounds) .none kV13 dc13 pm13 an13 cd13 ct13), sl13⟩) (c13 : PySem.W.codeIn K cd13 "hear_bounds" = true) (k13 : PySem.W.keepIn K (.ref f13) = true)
    (a14 : PySem.W.nsIn K mainGlobals "event_bounds" = some (some (.ref f14)))
    (l14 : K.lookup f14 = some ⟨oc14, od14, .func (PySem.W.fnOf "event_bounds" "event_bounds" (defArgs s_event_bounds) (defBody s_event_bounds) (defScope s_event_bounds) .none kV14 dc14 pm14 an14 cd14 ct14), sl14⟩) (c14 : PySem.W.codeIn K cd14 "event_bounds" = true) (k14 : PySem.W.keepIn K (.ref f14) = true)
    (a15 : PySem.W.nsIn K mainGlobals "heard_kind" = some (some (.ref f15)))
    (l15 : K.lookup f15 = some ⟨oc15, od15, .func (PySem.W.fnOf "heard_kind" "heard_kind" (defArgs s_heard_kind) (defBody s_heard_kind) (defScope s_heard_kind) .none kV15 dc15 pm15 an15 cd15 ct15), sl15⟩) (c15 : PySem.W.codeIn K cd15 "heard_kind" = true) (k15 : PySem.W.keepIn K (.ref f15) = true)
    (a16 : PySem.W.nsIn K mainGlobals "view_bounds" = some (some (.ref f16)))
    (l16 : K.lookup f16 = some ⟨oc16, od16, .func (PySem.W.fnOf "view_bounds" "view_bounds" (defArgs s_view_bounds) (defBody s_view_bounds) (defScope s_view_bounds) .none kV16 dc16 pm16 an16 cd16 ct16), sl16⟩) (c16 : PySem.W.codeIn K cd16 "view_bounds" = true) (k16 : PySem.W.keepIn K (.ref f16) = true)
    (a17 : PySem.W.nsIn K mainGlobals "_law_draws" = some (some (.ref f17)))
    (l17 : K.lookup f17 = some ⟨oc17, od17, .func (PySem.W.fnOf "_law_draws" "_law_draws" (defArgs s__law_draws) (defBody s__law_draws) (defScope s__law_draws) .none kV17 dc17 pm17 an17 cd17 ct17), sl17⟩) (c17 : PySem.W.codeIn K cd17 "_law_draws" = true) (k17 : PySem.W.keepIn K (.ref f17) = true)
    (a18 : PySem.W.nsIn K mainGlobals "_law_take" = some (some (.ref f18)))
    (l18 : K.lookup f18 = some ⟨oc18, od18, .func (PySem.W.fnOf "_law_take" "_law_take" (defArgs s__law_take) (defBody s__law_take) (defScope s__law_take) .none kV18 dc18 pm18 an18 cd18 ct18), sl18⟩) (c18 : PySem.W.codeIn K cd18 "_law_take" = true) (k18 : PySem.W.keepIn K (.ref f18) = true)
    (a19 : PySem.W.nsIn K mainGlobals "_law_kinds" = some (some (.ref f19)))
    (l19 : K.lookup f19 = some ⟨oc19, od19, .func (PySem.W.fnOf "_law_kinds" "_law_kinds" (defArgs s__law_kinds) (defBody s__law_kinds) (defScope s__law_kinds) .none kV19 dc19 pm19 an19 cd19 ct19), sl19⟩) (c19 : PySem.W.codeIn K cd19 "_law_kinds" = true) (k19 : PySem.W.keepIn K (.ref f19) = true)
    (a20 : PySem.W.nsIn K mainGlobals "_law_run" = some (some (.ref f20)))
    (l20 : K.lookup f20 = some ⟨oc20, od20, .func (PySem.W.fnOf "_law_run" "_law_run" (defArgs s__law_run) (defBody s__law_run) (defScope s__law_run) .none kV20 dc20 pm20 an20 cd20 ct20), sl20⟩) (c20 : PySem.W.codeIn K cd20 "_law_run" = true) (k20 : PySem.W.keepIn K (.ref f20) = true)
    (a21 : PySem.W.nsIn K mainGlobals "_law_begin" = some (some (.ref f21)))
    (l21 : K.lookup f21 = some ⟨oc21, od21, .func (PySem.W.fnOf "_law_begin" "_law_begin" (defArgs s__law_begin) (defBody s__law_begin) (defScope s__law_begin) .none kV21 dc21 pm21 an21 cd21 ct21), sl21⟩) (c21 : PySem.W.codeIn K cd21 "_law_begin" = true) (k21 : PySem.W.keepIn K (.ref f21) = true)
    (a22 : PySem.W.nsIn K mainGlobals "_law_deed" = some (some (.ref f22)))
    (l22 : K.lookup f22 = some ⟨oc22, od22, .func (PySem.W.fnOf "_law_deed" "_law_deed" (defArgs s__law_deed) (defBody s__law_deed) (defScope s__law_deed) .none kV22 dc22 pm22 an22 cd22 ct22), sl22⟩) (c22 : PySem.W.codeIn K cd22 "_law_deed" = true) (k22 : PySem.W.keepIn K (.ref f22) = true)
    (a23 : PySem.W.findIn K (.ref CF) "__init__" = some (some (.ref f23))) (i23 : PySem.W.isFn K (.ref f23) = true)
    (l23 : K.lookup f23 = some ⟨oc23, od23, .func (PySem.W.fnOf "__init__" "Frame.__init__" (defArgs s_Frame___init__) (defBody s_Frame___init__) (defScope s_Frame___init__) .none kV23 dc23 pm23 an23 cd23 ct23), sl23⟩) (c23 : PySem.W.codeIn K cd23 "Frame.__init__" = true) (k23 : PySem.W.keepIn K (.ref f23) = true)
    (a24 : PySem.W.nsIn K mainGlobals "law" = some (some (.ref f24)))
    (l24 : K.lookup f24 = some ⟨oc24, od24, .func (PySem.W.fnOf "law" "law" (defArgs s_law) (defBody s_law) (defScope s_law) .none kV24 dc24 pm24 an24 cd24 ct24), sl24⟩) (c24 : PySem.W.codeIn K cd24 "law" = true) (k24 : PySem.W.keepIn K (.ref f24) = true)
    (z_len : PySem.W.nsIn K mainGlobals "len" = some none)
    (z_str : PySem.W.nsIn K mainGlobals "str" = some none)
    (z_int : PySem.W.nsIn K mainGlobals "int" = some none)
    (z_range : PySem.W.nsIn K mainGlobals "range" = some none)
    (z_tuple : PySem.W.nsIn K mainGlobals "tuple" = some none)
    (z_list : PySem.W.nsIn K mainGlobals "list" = some none)
    (z_isinstance : PySem.W.nsIn K mainGlobals "isinstance" = some none)
    (z_bool : PySem.W.nsIn K mainGlobals "bool" = some none)
    (z_all : PySem.W.nsIn K mainGlobals "all" = some none)
    (z_min : PySem.W.nsIn K mainGlobals "min" = some none)
    (z_sum : PySem.W.nsIn K mainGlobals "sum" = some none)
    (z_enumerate : PySem.W.nsIn K mainGlobals "enumerate" = some none)
    (z_NO_CLOCK : PySem.W.nsIn K mainGlobals "NO_CLOCK" = some (some (.int (-1) t_NO_CLOCK)))
    (z_NO_PART : PySem.W.nsIn K mainGlobals "NO_PART" = some (some (.int (-1) t_NO_PART)))
    (m_START : PySem.W.nsIn K mainGlobals "START" = some (some (.ref a_START))) (l_START : K.lookup a_START = some ⟨.type "tuple", none, .seq #[.int (-1) t_START0, .int 0 t_START1, .int (-1) t_START2] n_START, sl_START⟩) :
    ∃ fd : FuncData, (∀ (s : Shared) (v : Value), BindsTo s fd ⟨[v], []⟩ [("script", v)]) ∧ ∀ base : Heap, K.In base → base.Ns mainGlobals mg → FnOk l.prog w K mg base CX0 6 fa fd ["script"] (sp_law K) := by
  have e := hfa.symm.trans (PySem.W.mg_of X G a24)
  cases e
  have TF : Ck_Frame K mg CF := ⟨⟨pg_Frame, hd_Frame, po_Frame, sa_Frame⟩, PySem.W.mg_of X G aC_Frame, n_Frame_devices, n_Frame_clocks, n_Frame_links, n_Frame_sources, n_Frame_faults⟩
  have F0 := fun_mk (st := s_Frame_clocks_of) l0 c0 k0
  have M_Frame_clocks_of : Mt K CF "clocks_of" "Frame.clocks_of" s_Frame_clocks_of ["self", "device"] _ _ := ⟨F0, F0.binds (ps := ["self", "device"]) fun _ _ _ _ _ _ us hl => match us, hl with | [_, _], _ => rfl, ⟨a0, i0, k0⟩⟩
  have F1 := fun_mk (st := s_first_hands) l1 c1 k1
  have D_first_hands : Df K mg "first_hands" s_first_hands ["frame", "device"] _ _ := ⟨F1, F1.binds (ps := ["frame", "device"]) fun _ _ _ _ _ _ us hl => match us, hl with | [_, _], _ => rfl, PySem.W.mg_of X G a1⟩
  have F2 := fun_mk (st := s_event_point) l2 c2 k2
  have D_event_point : Df K mg "event_point" s_event_point ["event"] _ _ := ⟨F2, F2.binds (ps := ["event"]) fun _ _ _ _ _ _ us hl => match us, hl with | [_], _ => rfl, PySem.W.mg_of X G a2⟩
  have F3 := fun_mk (st := s_at_least_later) l3 c3 k3
  have D_at_least_later : Df K mg "at_least_later" s_at_least_later ["first", "second", "least", "part"] _ _ := ⟨F3, F3.binds (ps := ["first", "second", "least", "part"]) fun _ _ _ _ _ _ us hl => match us, hl with | [_, _, _, _], _ => rfl, PySem.W.mg_of X G a3⟩
  have F4 := fun_mk (st := s_from_to_later) l4 c4 k4
  have D_from_to_later : Df K mg "from_to_later" s_from_to_later ["first", "second", "least", "most", "part"] _ _ := ⟨F4, F4.binds (ps := ["first", "second", "least", "most", "part"]) fun _ _ _ _ _ _ us hl => match us, hl with | [_, _, _, _, _], _ => rfl, PySem.W.mg_of X G a4⟩
  have F5 := fun_mk (st := s_running_since) l5 c5 k5
  have D_running_since : Df K mg "running_since" s_running_since ["frame", "clock", "event", "hand"] _ _ := ⟨F5, F5.binds (ps := ["frame", "clock", "event", "hand"]) fun _ _ _ _ _ _ us hl => match us, hl with | [_, _, _, _], _ => rfl, PySem.W.mg_of X G a5⟩
  have F6 := fun_mk (st := s_clock_bounds) l6 c6 k6
  have D_clock_bounds : Df K mg "clock_bounds" s_clock_bounds ["frame", "record", "clock", "place", "hand"] _ _ := ⟨F6, F6.binds (ps := ["frame", "record", "clock", "place", "hand"]) fun _ _ _ _ _ _ us hl => match us, hl with | [_, _, _, _, _], _ => rfl, PySem.W.mg_of X G a6⟩
  have F7 := fun_mk (st := s_kind_given) l7 c7 k7
  have D_kind_given : Df K mg "kind_given" s_kind_given ["deed", "clock", "place"] _ _ := ⟨F7, F7.binds (ps := ["deed", "clock", "place"]) fun _ _ _ _ _ _ us hl => match us, hl with | [_, _, _], _ => rfl, PySem.W.mg_of X G a7⟩
  have F8 := fun_mk (st := s_hand_after) l8 c8 k8
  have D_hand_after : Df K mg "hand_after" s_hand_after ["frame", "record", "clock", "place", "hand"] _ _ := ⟨F8, F8.binds (ps := ["frame", "record", "clock", "place", "hand"]) fun _ _ _ _ _ _ us hl => match us, hl with | [_, _, _, _, _], _ => rfl, PySem.W.mg_of X G a8⟩
  have F9 := fun_mk (st := s_hands_after) l9 c9 k9
  have D_hands_after : Df K mg "hands_after" s_hands_after ["frame", "record", "hands"] _ _ := ⟨F9, F9.binds (ps := ["frame", "record", "hands"]) fun _ _ _ _ _ _ us hl => match us, hl with | [_, _, _], _ => rfl, PySem.W.mg_of X G a9⟩
  have F10 := fun_mk (st := s_Frame_source_part) l10 c10 k10
  have M_Frame_source_part : Mt K CF "source_part" "Frame.source_part" s_Frame_source_part ["self", "source"] _ _ := ⟨F10, F10.binds (ps := ["self", "source"]) fun _ _ _ _ _ _ us hl => match us, hl with | [_, _], _ => rfl, ⟨a10, i10, k10⟩⟩
  have F11 := fun_mk (st := s_mark_bounds) l11 c11 k11
  have D_mark_bounds : Df K mg "mark_bounds" s_mark_bounds ["frame", "here", "deed"] _ _ := ⟨F11, F11.binds (ps := ["frame", "here", "deed"]) fun _ _ _ _ _ _ us hl => match us, hl with | [_, _, _], _ => rfl, PySem.W.mg_of X G a11⟩
  have F12 := fun_mk (st := s_Frame_link_part) l12 c12 k12
  have M_Frame_link_part : Mt K CF "link_part" "Frame.link_part" s_Frame_link_part ["self", "link"] _ _ := ⟨F12, F12.binds (ps := ["self", "link"]) fun _ _ _ _ _ _ us hl => match us, hl with | [_, _], _ => rfl, ⟨a12, i12, k12⟩⟩
  have F13 := fun_mk (st := s_hear_bounds) l13 c13 k13
  have D_hear_bounds : Df K mg "hear_bounds" s_hear_bounds ["frame", "here", "deed", "kind"] _ _ := ⟨F13, F13.binds (ps := ["frame", "here", "deed", "kind"]) fun _ _ _ _ _ _ us hl => match us, hl with | [_, _, _, _], _ => rfl, PySem.W.mg_of X G a13⟩
  have F14 := fun_mk (st := s_event_bounds) l14 c14 k14
  have D_event_bounds : Df K mg "event_bounds" s_event_bounds ["frame", "record", "hands", "kind"] _ _ := ⟨F14, F14.binds (ps := ["frame", "record", "hands", "kind"]) fun _ _ _ _ _ _ us hl => match us, hl with | [_, _, _, _], _ => rfl, PySem.W.mg_of X G a14⟩
  have F15 := fun_mk (st := s_heard_kind) l15 c15 k15
  have D_heard_kind : Df K mg "heard_kind" s_heard_kind ["frame", "view", "deed"] _ _ := ⟨F15, F15.binds (ps := ["frame", "view", "deed"]) fun _ _ _ _ _ _ us hl => match us, hl with | [_, _, _], _ => rfl, PySem.W.mg_of X G a15⟩
  have F16 := fun_mk (st := s_view_bounds) l16 c16 k16
  have D_view_bounds : Df K mg "view_bounds" s_view_bounds ["frame", "view"] _ _ := ⟨F16, F16.binds (ps := ["frame", "view"]) fun _ _ _ _ _ _ us hl => match us, hl with | [_, _], _ => rfl, PySem.W.mg_of X G a16⟩
  have F17 := fun_mk (st := s__law_draws) l17 c17 k17
  have D__law_draws : Df K mg "_law_draws" s__law_draws ["script", "count"] _ _ := ⟨F17, F17.binds (ps := ["script", "count"]) fun _ _ _ _ _ _ us hl => match us, hl with | [_, _], _ => rfl, PySem.W.mg_of X G a17⟩
  have F18 := fun_mk (st := s__law_take) l18 c18 k18
  have D__law_take : Df K mg "_law_take" s__law_take ["rows", "at", "many"] _ _ := ⟨F18, F18.binds (ps := ["rows", "at", "many"]) fun _ _ _ _ _ _ us hl => match us, hl with | [_, _, _], _ => rfl, PySem.W.mg_of X G a18⟩
  have F19 := fun_mk (st := s__law_kinds) l19 c19 k19
  have D__law_kinds : Df K mg "_law_kinds" s__law_kinds ["rows", "at"] _ _ := ⟨F19, F19.binds (ps := ["rows", "at"]) fun _ _ _ _ _ _ us hl => match us, hl with | [_, _], _ => rfl, PySem.W.mg_of X G a19⟩
  have F20 := fun_mk (st := s__law_run) l20 c20 k20
  have D__law_run : Df K mg "_law_run" s__law_run ["clock", "rows", "amount", "kinds"] _ _ := ⟨F20, F20.binds (ps := ["clock", "rows", "amount", "kinds"]) fun _ _ _ _ _ _ us hl => match us, hl with | [_, _, _, _], _ => rfl, PySem.W.mg_of X G a20⟩
  have F21 := fun_mk (st := s__law_begin) l21 c21 k21
  have D__law_begin : Df K mg "_law_begin" s__law_begin ["clock", "rows", "kinds"] _ _ := ⟨F21, F21.binds (ps := ["clock", "rows", "kinds"]) fun _ _ _ _ _ _ us hl => match us, hl with | [_, _, _], _ => rfl, PySem.W.mg_of X G a21⟩
  have F22 := fun_mk (st := s__law_deed) l22 c22 k22
  have D__law_deed : Df K mg "_law_deed" s__law_deed ["rows", "at", "clock", "kinds"] _ _ := ⟨F22, F22.binds (ps := ["rows", "at", "clock", "kinds"]) fun _ _ _ _ _ _ us hl => match us, hl with | [_, _, _, _], _ => rfl, PySem.W.mg_of X G a22⟩
  have F23 := fun_mk (st := s_Frame___init__) l23 c23 k23
  have M_Frame___init__ : Mt K CF "__init__" "Frame.__init__" s_Frame___init__ ["self", "devices", "clocks", "links", "sources", "faults"] _ _ := ⟨F23, F23.binds (ps := ["self", "devices", "clocks", "links", "sources", "faults"]) fun _ _ _ _ _ _ us hl => match us, hl with | [_, _, _, _, _, _], _ => rfl, ⟨a23, i23, k23⟩⟩
  have MF : Mk K CF _ := ⟨mk_Frame, a23, i23, kc_Frame⟩
  have F24 := fun_mk (st := s_law) l24 c24 k24
  have D_law : Df K mg "law" s_law ["script"] _ _ := ⟨F24, F24.binds (ps := ["script"]) fun _ _ _ _ _ _ us hl => match us, hl with | [_], _ => rfl, PySem.W.mg_of X G a24⟩
  have g_NO_CLOCK := PySem.W.mg_of X G z_NO_CLOCK
  have g_NO_PART := PySem.W.mg_of X G z_NO_PART
  have c_START : TupC K mg "START" a_START [(-1), 0, (-1)] := ⟨PySem.W.mg_of X G m_START, fun H => .inr ⟨_, _, _, l_START, rfl, rfl, (show 3 ≤ sizeLine by decide), .cons ⟨_, rfl⟩ (.cons ⟨_, rfl⟩ (.cons ⟨_, rfl⟩ (.nil)))⟩⟩
  have T : Txt K mg := ⟨PySem.W.mg_none_of X G z_len, PySem.W.mg_none_of X G z_str, PySem.W.mg_none_of X G z_int, PySem.W.mg_none_of X G z_range, PySem.W.mg_none_of X G z_tuple, PySem.W.mg_none_of X G z_list, PySem.W.mg_none_of X G z_isinstance, PySem.W.mg_none_of X G z_bool, PySem.W.mg_none_of X G z_all, PySem.W.mg_none_of X G z_min, PySem.W.mg_none_of X G z_sum, PySem.W.mg_none_of X G z_enumerate⟩
  refine ⟨PySem.W.fnOf "law" "law" (defArgs s_law) (defBody s_law) (defScope s_law) .none kV24 dc24 pm24 an24 cd24 ct24, fun s v => .of_eq rfl, fun base _ _ => ?_⟩
  have G_Frame_clocks_of : FnOk l.prog w K mg base CX0 1 _ _ ["self", "device"] (sp_Frame_clocks_of K CF) := ok_Frame_clocks_of TF M_Frame_clocks_of T  
  have G_first_hands : FnOk l.prog w K mg base CX0 2 _ _ ["frame", "device"] (sp_first_hands K CF) := ok_first_hands TF D_first_hands T  M_Frame_clocks_of G_Frame_clocks_of
  have G_event_point : FnOk l.prog w K mg base CX0 1 _ _ ["event"] (sp_event_point K) := ok_event_point D_event_point T g_NO_CLOCK 
  have G_at_least_later : FnOk l.prog w K mg base CX0 1 _ _ ["first", "second", "least", "part"] (sp_at_least_later K) := ok_at_least_later D_at_least_later T  
  have G_from_to_later : FnOk l.prog w K mg base CX0 2 _ _ ["first", "second", "least", "most", "part"] (sp_from_to_later K) := ok_from_to_later D_from_to_later T  D_at_least_later G_at_least_later
  have G_running_since : FnOk l.prog w K mg base CX0 1 _ _ ["frame", "clock", "event", "hand"] (sp_running_since K CF) := ok_running_since TF D_running_since T  
  have G_clock_bounds : FnOk l.prog w K mg base CX0 3 _ _ ["frame", "record", "clock", "place", "hand"] (sp_clock_bounds K CF) := ok_clock_bounds TF D_clock_bounds T  D_event_point G_event_point D_at_least_later G_at_least_later D_from_to_later G_from_to_later D_running_since G_running_since
  have G_kind_given : FnOk l.prog w K mg base CX0 1 _ _ ["deed", "clock", "place"] (sp_kind_given K) := ok_kind_given D_kind_given T  
  have G_hand_after : FnOk l.prog w K mg base CX0 2 _ _ ["frame", "record", "clock", "place", "hand"] (sp_hand_after K CF) := ok_hand_after TF D_hand_after T  D_event_point G_event_point D_running_since G_running_since D_kind_given G_kind_given
  have G_hands_after : FnOk l.prog w K mg base CX0 3 _ _ ["frame", "record", "hands"] (sp_hands_after K CF) := ok_hands_after TF D_hands_after T  D_hand_after G_hand_after M_Frame_clocks_of G_Frame_clocks_of
  have G_Frame_source_part : FnOk l.prog w K mg base CX0 1 _ _ ["self", "source"] (sp_Frame_source_part K CF) := ok_Frame_source_part TF M_Frame_source_part T  
  have G_mark_bounds : FnOk l.prog w K mg base CX0 3 _ _ ["frame", "here", "deed"] (sp_mark_bounds K CF) := ok_mark_bounds TF D_mark_bounds T c_START D_from_to_later G_from_to_later M_Frame_source_part G_Frame_source_part
  have G_Frame_link_part : FnOk l.prog w K mg base CX0 1 _ _ ["self", "link"] (sp_Frame_link_part K CF) := ok_Frame_link_part TF M_Frame_link_part T  
  have G_hear_bounds : FnOk l.prog w K mg base CX0 2 _ _ ["frame", "here", "deed", "kind"] (sp_hear_bounds K CF) := ok_hear_bounds TF D_hear_bounds T g_NO_PART D_event_point G_event_point D_at_least_later G_at_least_later M_Frame_link_part G_Frame_link_part
  have G_event_bounds : FnOk l.prog w K mg base CX0 4 _ _ ["frame", "record", "hands", "kind"] (sp_event_bounds K CF) := ok_event_bounds TF D_event_bounds T g_NO_PART D_event_point G_event_point D_at_least_later G_at_least_later D_clock_bounds G_clock_bounds D_hands_after G_hands_after D_mark_bounds G_mark_bounds D_hear_bounds G_hear_bounds M_Frame_clocks_of G_Frame_clocks_of
  have G_heard_kind : FnOk l.prog w K mg base CX0 1 _ _ ["frame", "view", "deed"] (sp_heard_kind K CF) := ok_heard_kind TF D_heard_kind T  
  have G_view_bounds : FnOk l.prog w K mg base CX0 5 _ _ ["frame", "view"] (sp_view_bounds K CF) := ok_view_bounds TF D_view_bounds T  D_first_hands G_first_hands D_event_bounds G_event_bounds D_heard_kind G_heard_kind
  have G__law_draws : FnOk l.prog w K mg base CX0 1 _ _ ["script", "count"] (sp__law_draws K) := ok__law_draws D__law_draws T  
  have G__law_take : FnOk l.prog w K mg base CX0 1 _ _ ["rows", "at", "many"] (sp__law_take K) := ok__law_take D__law_take T  
  have G__law_kinds : FnOk l.prog w K mg base CX0 2 _ _ ["rows", "at"] (sp__law_kinds K) := ok__law_kinds D__law_kinds T  D__law_take G__law_take
  have G__law_run : FnOk l.prog w K mg base CX0 2 _ _ ["clock", "rows", "amount", "kinds"] (sp__law_run K) := ok__law_run D__law_run T  D__law_take G__law_take
  have G__law_begin : FnOk l.prog w K mg base CX0 2 _ _ ["clock", "rows", "kinds"] (sp__law_begin K) := ok__law_begin D__law_begin T  D__law_take G__law_take
  have G__law_deed : FnOk l.prog w K mg base CX0 3 _ _ ["rows", "at", "clock", "kinds"] (sp__law_deed K) := ok__law_deed D__law_deed T  D__law_take G__law_take D__law_begin G__law_begin
  have G_Frame___init__ : FnOk l.prog w K mg base CX0 1 _ _ ["self", "devices", "clocks", "links", "sources", "faults"] (sp_Frame___init__ K CF) := ok_Frame___init__ TF M_Frame___init__ T  
  have G_law : FnOk l.prog w K mg base CX0 6 _ _ ["script"] (sp_law K) := ok_law TF MF D_law T  D_view_bounds G_view_bounds D__law_draws G__law_draws D__law_take G__law_take D__law_kinds G__law_kinds D__law_run G__law_run D__law_begin G__law_begin D__law_deed G__law_deed M_Frame___init__ G_Frame___init__
  exact G_law
theorem walk {l : PySem.W.OpenLaw} {q : Program} {loose : List Str} {XP : (Str → Option Value) → Heap → Prop} {YP : World → Heap → Prop} {d : DefRec} {K : Params → PySem.W.Frag} (hn : l.most = some 63) (hdf : d.params.defaults = [])
    (hY : ∀ (w : World) (h : Heap), YP w h → (K w.params).In h)
    (F : ∀ (w : World) (mg : Str → Option Value) (fa : Addr) (h : Heap), (K w.params).In h → h.Ns mainGlobals mg → mg d.name = some (.ref fa) →
      ∃ fd : FuncData, (∀ (s : Shared) (u : Value), BindsTo s fd ⟨[u], []⟩ [("script", u)]) ∧ ∀ base : Heap, (K w.params).In base → base.Ns mainGlobals mg → FnOk l.prog w (K w.params) mg base CX0 6 fa fd ["script"] (sp_law (K w.params))) :
    PySem.W.WalkO q loose XP YP l.row.toRowW d [] (fun f vs => PySem.call f vs) :=
  L2.walk_of (n := 63) (k := 6) (x := "script") (CX := fun _ => CX0) (sp := fun w => sp_law (K w.params)) hn (by decide) hdf ⟨rfl, by decide, by decide⟩ hY F (fun _ _ a ns hl _ hS => ⟨a, ns, rfl, hS, hl, fun _ => rfl⟩) fun _ _ _ _ _ z => z
end Vs
open PySem PySem.W PyProof.Rows
set_option maxRecDepth 100000 in
set_option maxHeartbeats 0 in
theorem PySem.Challenge.cw_whensure_k24_clocks_that_run_meet_their_holds : PySem.Challenge.rw_whensure_k24_clocks_that_run_meet_their.Holds := by
  w_on; o_law; k_head; (case hw => w_witness2)
  k_fill
  refine Vs.walk (l := PySem.Challenge.rw_whensure_k24_clocks_that_run_meet_their) rfl rfl (fun w h Y => PySem.W.kIn_of Y) ?F
  case F =>
    intro w mg fa h KX G hmg
    refine' Vs.all_mk KX G hmg ?aC_Frame ?pg_Frame ?hd_Frame ?po_Frame ?sa_Frame ?mk_Frame ?kc_Frame ?n_Frame_devices ?n_Frame_clocks ?n_Frame_links ?n_Frame_sources ?n_Frame_faults ?a0 ?i0 ?l0 ?c0 ?k0 ?a1 ?l1 ?c1 ?k1 ?a2 ?l2 ?c2 ?k2 ?a3 ?l3 ?c3 ?k3 ?a4 ?l4 ?c4 ?k4 ?a5 ?l5 ?c5 ?k5 ?a6 ?l6 ?c6 ?k6 ?a7 ?l7 ?c7 ?k7 ?a8 ?l8 ?c8 ?k8 ?a9 ?l9 ?c9 ?k9 ?a10 ?i10 ?l10 ?c10 ?k10 ?a11 ?l11 ?c11 ?k11 ?a12 ?i12 ?l12 ?c12 ?k12 ?a13 ?l13 ?c13 ?k13 ?a14 ?l14 ?c14 ?k14 ?a15 ?l15 ?c15 ?k15 ?a16 ?l16 ?c16 ?k16 ?a17 ?l17 ?c17 ?k17 ?a18 ?l18 ?c18 ?k18 ?a19 ?l19 ?c19 ?k19 ?a20 ?l20 ?c20 ?k20 ?a21 ?l21 ?c21 ?k21 ?a22 ?l22 ?c22 ?k22 ?a23 ?i23 ?l23 ?c23 ?k23 ?a24 ?l24 ?c24 ?k24 ?z_len ?z_str ?z_int ?z_range ?z_tuple ?z_list ?z_isinstance ?z_bool ?z_all ?z_min ?z_sum ?z_enumerate ?z_NO_CLOCK ?z_NO_PART ?m_START ?l_START
    (case aC_Frame => k_is)
    (case pg_Frame => k_is)
    (case hd_Frame => k_is)
    (case po_Frame => k_is)
    (case sa_Frame => k_is)
    (case mk_Frame => k_is)
    (case kc_Frame => k_is)
    (case n_Frame_devices => k_is)
    (case n_Frame_clocks => k_is)
    (case n_Frame_links => k_is)
    (case n_Frame_sources => k_is)
    (case n_Frame_faults => k_is)
    (case a0 => k_is)
    (case i0 => k_is)
    (case l0 => k_is)
    (case c0 => k_is)
    (case k0 => k_is)
    (case a1 => k_is)
    (case l1 => k_is)
    (case c1 => k_is)
    (case k1 => k_is)
    (case a2 => k_is)
    (case l2 => k_is)
    (case c2 => k_is)
    (case k2 => k_is)
    (case a3 => k_is)
    (case l3 => k_is)
    (case c3 => k_is)
    (case k3 => k_is)
    (case a4 => k_is)
    (case l4 => k_is)
    (case c4 => k_is)
    (case k4 => k_is)
    (case a5 => k_is)
    (case l5 => k_is)
    (case c5 => k_is)
    (case k5 => k_is)
    (case a6 => k_is)
    (case l6 => k_is)
    (case c6 => k_is)
    (case k6 => k_is)
    (case a7 => k_is)
    (case l7 => k_is)
    (case c7 => k_is)
    (case k7 => k_is)
    (case a8 => k_is)
    (case l8 => k_is)
    (case c8 => k_is)
    (case k8 => k_is)
    (case a9 => k_is)
    (case l9 => k_is)
    (case c9 => k_is)
    (case k9 => k_is)
    (case a10 => k_is)
    (case i10 => k_is)
    (case l10 => k_is)
    (case c10 => k_is)
    (case k10 => k_is)
    (case a11 => k_is)
    (case l11 => k_is)
    (case c11 => k_is)
    (case k11 => k_is)
    (case a12 => k_is)
    (case i12 => k_is)
    (case l12 => k_is)
    (case c12 => k_is)
    (case k12 => k_is)
    (case a13 => k_is)
    (case l13 => k_is)
    (case c13 => k_is)
    (case k13 => k_is)
    (case a14 => k_is)
    (case l14 => k_is)
    (case c14 => k_is)
    (case k14 => k_is)
    (case a15 => k_is)
    (case l15 => k_is)
    (case c15 => k_is)
    (case k15 => k_is)
    (case a16 => k_is)
    (case l16 => k_is)
    (case c16 => k_is)
    (case k16 => k_is)
    (case a17 => k_is)
    (case l17 => k_is)
    (case c17 => k_is)
    (case k17 => k_is)
    (case a18 => k_is)
    (case l18 => k_is)
    (case c18 => k_is)
    (case k18 => k_is)
    (case a19 => k_is)
    (case l19 => k_is)
    (case c19 => k_is)
    (case k19 => k_is)
    (case a20 => k_is)
    (case l20 => k_is)
    (case c20 => k_is)
    (case k20 => k_is)
    (case a21 => k_is)
    (case l21 => k_is)
    (case c21 => k_is)
    (case k21 => k_is)
    (case a22 => k_is)
    (case l22 => k_is)
    (case c22 => k_is)
    (case k22 => k_is)
    (case a23 => k_is)
    (case i23 => k_is)
    (case l23 => k_is)
    (case c23 => k_is)
    (case k23 => k_is)
    (case a24 => k_is)
    (case l24 => k_is)
    (case c24 => k_is)
    (case k24 => k_is)
    (case z_len => k_is)
    (case z_str => k_is)
    (case z_int => k_is)
    (case z_range => k_is)
    (case z_tuple => k_is)
    (case z_list => k_is)
    (case z_isinstance => k_is)
    (case z_bool => k_is)
    (case z_all => k_is)
    (case z_min => k_is)
    (case z_sum => k_is)
    (case z_enumerate => k_is)
    (case z_NO_CLOCK => k_is)
    (case z_NO_PART => k_is)
    (case m_START => k_is)
    (case l_START => k_is)
#print axioms PySem.Challenge.cw_whensure_k24_clocks_that_run_meet_their_holds
