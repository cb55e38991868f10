import PyProof.Rows.All
import Wide.All
import OpenK.AllK
import Wide.FinOn
import KE.GoesEnum
import HandS.ForMost
import HandS.IsInst
import HandS.Flow
import HandS.Walk
import HandS.Zip
import HandS.Style
import HandS.Defaults
import HandS.Evl
import HandS.ForExc
import HandS.ExcInit
import HandS.ClsMeth
import HandS.FStr
import HandS.Steps
import HandS.ExcIs
import HandS.WordsExc
import KE.DataEq
import KE.KEqDict
import PySem.Challenge.RW_fieldtable_k03_fields_and_settings_recog
set_option Elab.async false
set_option linter.all false
set_option maxRecDepth 100000
set_option maxHeartbeats 4000000
namespace Fld
open PySem PySem.Spec PyProof.Rows L2
/-! ### a written dict whose keys are ints -/
def EntI : List DictEntry → List (Int × V) → Prop := Paired fun (e : DictEntry) (p : Int × V) => (∃ t, e.key = Value.int p.1 t) ∧ e.hash = hashInt p.1 ∧ RelV p.2 e.val
structure IDict (K : PySem.W.Frag) (d : Addr) (kvs : List (Int × V)) : Prop where
  ex : ∃ es n, K.lookup d = some ⟨.type "dict", none, .dict es n, #[]⟩ ∧ EntI es.toList kvs
  low : (d == sysModules) = false
def valI (kvs : List (Int × V)) (k : Int) : Option V := (kvs.find? fun p => p.1 == k).map (·.2)
theorem findI : ∀ {es : List DictEntry} {kvs : List (Int × V)} (k : Int), EntI es kvs → RelO (valI kvs k) ((es.find? fun e => Value.isInt k e.key).map (·.val))
  | _, _, k, .nil => True.intro
  | e :: es, p :: kvs, k, .cons h t => by
    obtain ⟨⟨u, e1⟩, e2, e3⟩ := h
    have ih := findI k t
    unfold valI
    rw [List.find?_cons, List.find?_cons, e1]
    by_cases c : p.1 = k
    · subst c
      have q : Value.isInt p.1 (Value.int p.1 u) = true := by simp [Value.isInt]
      rw [q]
      simp only [beq_self_eq_true, Option.map_some]
      exact e3
    · have q : Value.isInt k (Value.int p.1 u) = false := by simp [Value.isInt, c]
      have q2 : (p.1 == k) = false := by simp [c]
      rw [q, q2]
      exact ih
section
variable {X : Cx} {d : Addr} {kvs : List (Int × V)}
theorem IDict.map (D : IDict X.K d kvs) {h : Heap} (I : X.K.In h) : ∃ es : Array DictEntry, h.MapOf (intKind X.prog X.w) d (fun k => findBy Value.isInt es k) ∧ EntI es.toList kvs := by
  obtain ⟨es, n, l, e⟩ := D.ex
  refine ⟨es, ⟨_, es, n, I _ _ l, ⟨rfl, rfl, rfl⟩, rfl, fun x hx => ?_, fun _ => rfl⟩, e⟩
  have mem : ∀ {es : List DictEntry} {kvs : List (Int × V)}, EntI es kvs → ∀ x ∈ es, ∃ k t, x.key = Value.int k t ∧ x.hash = hashInt k := by
    intro es kvs r
    induction r with
    | nil => intro x hx; cases hx
    | cons h t ih =>
      intro x hx
      rcases List.mem_cons.mp hx with rfl | hx
      · obtain ⟨⟨u, e1⟩, e2, _⟩ := h
        exact ⟨_, u, e1, e2⟩
      · exact ih x hx
  obtain ⟨k, t, e1, e2⟩ := mem e x (Array.mem_toList_iff.mpr hx)
  exact ⟨k, by rw [e1]; exact intKind_is _ _ k t, e2⟩
theorem findE {es : Array DictEntry} (e : EntI es.toList kvs) (k : Int) : RelO (valI kvs k) (findBy Value.isInt es k) := by
  obtain ⟨l⟩ := es
  have := findI k e
  unfold findBy
  rw [List.find?_toArray]
  exact this
theorem isSome_of {a : Option V} {b : Option Value} (r : RelO a b) : b.isSome = a.isSome := by
  cases a <;> cases b <;> first | rfl | exact r.elim
/-- k in d, d a written dict with int keys -/
def rInI (d : Addr) (kvs : List (Int × V)) : R2 := fun x y H Q => ∃ k : Int, x = .int k ∧ y = .ref d ∧ Q (.bl (valI kvs k).isSome) H
theorem op_in_kdI (D : IDict X.K d kvs) : OpR X (compareOp .In) (rInI d kvs) := by
  intro pins s σ H x y v u Q I rx ry h
  obtain ⟨k, rfl, rfl, q⟩ := h
  obtain ⟨t, rfl⟩ := rx
  cases ry
  obtain ⟨es, m, e⟩ := D.map I.kIn
  refine wpAny_in_of (PySem.intKind_is X.prog X.w k t) D.low m ?_
  rw [isSome_of (findE e k)]
  exact ⟨.bl _, H, I.tok _, rfl, q⟩
/-- d[k] -/
def rIxI (d : Addr) (kvs : List (Int × V)) : R2 := fun x y H Q => ∃ (k : Int) (v : V), x = .ref d ∧ y = .int k ∧ valI kvs k = some v ∧ Q v H
theorem ix_kdI (D : IDict X.K d kvs) : IxR X (rIxI d kvs) := by
  intro value slice pins s σ H x y v u Q I rx ry h hs
  obtain ⟨k, z, rfl, rfl, hv, q⟩ := h
  cases rx
  obtain ⟨t, rfl⟩ := ry
  obtain ⟨es, m, e⟩ := D.map I.kIn
  have r := findE e k
  rw [hv] at r
  obtain ⟨u0, e0, ru⟩ := RelO.some_of r
  exact tail_any m.typeIs slot_dict_getitem.lookup (wpAny_getItem_of (PySem.intKind_is X.prog X.w k t) m e0 ⟨z, H, I.tok _, ru, q⟩) hs
end
/-! ### text * int -/
def repS (x : Str) (n : Nat) : Str := ⟨(List.replicate n x.cps.toList).flatten.toArray⟩
theorem foldl_app : ∀ (k : Nat) (xs : Array Nat) (acc : Array Nat), (List.replicate k xs).foldl (· ++ ·) acc = acc ++ (List.replicate k xs.toList).flatten.toArray
  | 0, xs, acc => by simp
  | k + 1, xs, acc => by
    rw [List.replicate_succ, List.foldl_cons, foldl_app k xs, List.replicate_succ, List.flatten_cons]
    apply Array.ext'
    simp [List.append_assoc]
theorem repS_tl (x : Str) (n : Nat) : (repS x n).cps.toList = (List.replicate n x.cps.toList).flatten := rfl
theorem op_mul_str {X : Cx} : OpR X (binaryOp .Mult) (fun x y H Q => ∃ (z : Str) (k : Int), x = .str z ∧ y = .int k ∧ 1 < k ∧ k < 1000 ∧ 0 < z.length ∧ z.length ≤ 1000 ∧ Q (.str (repS z k.toNat)) H) := by
  intro pins s σ H x y v u Q I rx ry h
  obtain ⟨z, k, rfl, rfl, h1, h2, h3, h4, q⟩ := h
  obtain ⟨t, rfl⟩ := rx
  obtain ⟨t', rfl⟩ := ry
  have hlen : (z.length == 0) = false := by simp; omega
  have hk1 : (k == 1) = false := by simp; omega
  refine PySem.P.mul_str (by
      rw [decide_eq_false (by omega), decide_eq_false (by omega)]; rfl) (fun _ _ => ?_) (fun _ _ => ?_) ?_
  · have : (1000 : Int) ≤ (2 ^ 63 - 1) / k := by
      rw [Int.le_ediv_iff_mul_le (by omega)]
      omega
    omega
  · have a1 : z.length * k.toNat ≤ 1000 * 1000 := Nat.mul_le_mul h4 (by omega)
    have a2 : ¬ (z.length * k.toNat > sizeLine) := by rw [sizeLine_eq]; omega
    show (decide _) = false
    first | exact decide_eq_false a2 | simp [a2]
  · rw [if_neg (by omega), hk1, hlen]
    simp only [Bool.or_self, Bool.false_eq_true, if_false]
    have e : (⟨(List.replicate k.toNat z.cps).foldl (· ++ ·) #[]⟩ : Str) = repS z k.toNat := by
      unfold repS
      rw [foldl_app]
      simp
    rw [e]
    refine ⟨?_, ⟨.str (repS z k.toNat), H, I.tok _, ⟨_, rfl⟩, q⟩⟩
    have a1 : z.length * k.toNat ≤ 1000 * 1000 := Nat.mul_le_mul h4 (by omega)
    have e2 : (repS z k.toNat).length = k.toNat * z.length := by
      show (List.replicate k.toNat z.cps.toList).flatten.toArray.size = _
      simp
      rfl
    rw [Nat.mul_comm] at a1
    first
      | exact decide_eq_false (by rw [e2, sizeLine_eq]; omega)
      | (rw [e2]; simp [sizeLine_eq]; omega)
      | (rw [e2, sizeLine_eq]; omega)
end Fld
namespace Fld
open PySem PySem.Spec PyProof.Rows L2
/-! ### enumerate(text) -/
/-- the signs of x, each in a new pair with its place -/
def ItS (x : Str) : It :=
  ⟨fun i H => i < x.cps.size, fun i H v H' => ∃ T c, v = .ref T ∧ H T = none ∧ H' = upd H T (.tup [.int (i : Nat), .str ⟨#[c]⟩]) ∧ x.cps[i]? = some c, fun i H => x.cps.size ≤ i⟩
theorem turn_enumS {P : Program} {w : World} {K : PySem.W.Frag} {elts : List Expr} {kk : Nat} {tpos : Pos} (x : Str) (t : Tok) (e it : Addr) :
    Turn P w K (.Tuple elts kk tpos) (ItS x) [e, it] e (fun i h => (∃ old, IsEnum h e it ((i : Nat) : Int) old) ∧ h.IsStrIter it (strIterType x) x t i ∧ e ≠ it ∧ i ≤ x.cps.size) where
  mem := by simp
  obj := fun i h st b hb => by
    obtain ⟨⟨old, he⟩, hi, _⟩ := st
    have e' : b = e ∨ b = it := by simpa using hb
    rcases e' with z | z
    · rw [z]; exact ⟨_, he, fun v q => nomatch q⟩
    · rw [z]; obtain ⟨o, ho, hc, hd⟩ := hi; exact ⟨_, ho, fun v q => by rw [hd] at q; cases q⟩
  keep := fun i h h' st k => let ⟨⟨old, he⟩, hi, hne, hl⟩ := st; ⟨⟨old, k e (by simp) _ he⟩, by obtain ⟨o, ho, hc, hd⟩ := hi; exact ⟨o, k it (by simp) o ho, hc, hd⟩, hne, hl⟩
  item := by
    intro X hP hw hK hc i pins s σ H E I hf st hg
    subst hP hw hK
    obtain ⟨⟨old, he⟩, hit, hne, hl⟩ := st
    have D := Draws.text (prog := X.prog) (w := X.w) (A := X.A.in1) (I.ok.hd hc) it x t
    have hel : e < s.heap.objs.size := Heap.lt_size he
    have hil : it < s.heap.objs.size := by obtain ⟨_, q⟩ := D.live i s.heap hit; exact Heap.lt_size q
    refine wpAny_pyNext_enum_itemC D he hit hg hne (by simp [hne]) fun u h' tk hP ho hit' hT hsz hk => ?_
    obtain ⟨c, tu, hx, rfl⟩ := hP
    refine ⟨_, rfl, wpAny_letOwnedTupleGo_enum (s := { s with heap := h', toks := tk + 1 }) ho fun h'' he' sb => ?_⟩
    have hT2 : h''.get? s.heap.objs.size = some { cls := .type "tuple", data := .seq #[.int i tk, .str ⟨#[c]⟩ tu] } := (sb.2 _ (Nat.ne_of_gt hel)).trans hT
    have new : ObjOk X.prog X.w (upd H s.heap.objs.size (.tup [.int (i : Nat), .str ⟨#[c]⟩])) h'' s.heap.objs.size (.tup [.int (i : Nat), .str ⟨#[c]⟩]) :=
      ⟨by show 2 ≤ sizeLine; decide, [.int i tk, .str ⟨#[c]⟩ tu], .cons ⟨_, rfl⟩ (.cons ⟨_, rfl⟩ .nil), ⟨_, hT2, rfl, _, rfl⟩⟩
    have I1 : Inv X pins σ (upd H s.heap.objs.size (.tup [.int (i : Nat), .str ⟨#[c]⟩])) { s with heap := h'', toks := tk + 1 } :=
      I.turnedNew (ch := [e, it]) (fun b ob hb q => (sb.2 b (fun z => hb (by simp [z]))).trans (hk b ob (fun z => hb (by simp [z])) (fun z => hb (by simp [z])) q)) hf (Nat.le_refl _) new
    refine ⟨.ref s.heap.objs.size, _, I1, rfl, ⟨_, c, rfl, I.hok.fresh (Nat.le_refl _), rfl, hx⟩, ⟨⟨.str ⟨#[c]⟩ tu, ?_⟩, D.frame _ _ _ hit' (fun b hb o q => ?_), hne, hg⟩, fun b hb => ?_⟩
    · have e1 : ((i + 1 : Nat) : Int) = (i : Int) + 1 := by omega
      rw [e1]; exact he'
    · have eb : b = it := by simpa using hb
      rw [eb] at q ⊢
      exact (sb.2 it (Ne.symm hne)).trans q
    · have hb' : b < s.heap.objs.size := by
        have e' : b = e ∨ b = it := by simpa using hb
        rcases e' with z | z
        · rw [z]; exact hel
        · rw [z]; exact hil
      rw [upd_ne (Nat.ne_of_lt hb')]
      exact (hf b hb).1
  done := by
    intro X hP hw hK hc i pins s σ H E I hf st hg
    subst hP hw hK
    obtain ⟨⟨old, he⟩, hit, hne, hl⟩ := st
    have ei : i = x.cps.size := Nat.le_antisymm hl hg
    subst ei
    have D := Draws.text (prog := X.prog) (w := X.w) (A := X.A.in1) (I.ok.hd hc) it x t
    obtain ⟨f0, f1, f2, f3, f4, f5⟩ := hf it (by simp)
    exact wpAny_pyNext_enum_endD D he hit fun h' eb => ⟨rfl, I.turned (t' := s.toks) (fun b o hb q => eb b o hb q) f0 f1 f3 f4 f5⟩
  self := fun A i s Q E st h => let ⟨⟨_, he⟩, _⟩ := st; wpAny_pyIter_enum he h
def iEnumS (ta : TA) : TI := fun σ H R => ta σ H fun vs H1 => ∃ x, vs = [.str x] ∧ R (ItS x) H1
theorem pi_enumS {X : Cx} {e : Expr} {ta : TA} {p pos tpos : Pos} {elts : List Expr} {kk : Nat} (hg : Gl X "enumerate") (hm : X.mg "enumerate" = none) (ha : PA X [e] ta) (hs : starEach [e] X.env = [(false, eval e X.env)] := by rfl) :
    PI X (.Tuple elts kk tpos) (.Call (.Name "enumerate" p) [e] [] pos) (iEnumS ta) := by
  refine ⟨fun pins s σ H R I h => ?_⟩
  refine Call_ (ld_blt I hg hm boot_enumerate (PyProof.Rows.callWith_type1 (thn (ha.run pos pins s σ H _ I h) fun us s1 ⟨vs, H1, I1, r1, q1⟩ => ?_) hs rfl))
  obtain ⟨x, ex, q⟩ := q1
  subst ex
  cases r1 with
  | cons r rr =>
    cases rr
    obtain ⟨t, rfl⟩ := r
    refine call_enumerate_str fun h' he hit hsz hk => wpAny_pyIter_enum he ?_
    have I2 : Inv X pins σ H1 { s1 with heap := h' } := I1.kept (t' := s1.toks) hk
    refine ⟨s1.heap.objs.size + 1, [s1.heap.objs.size + 1, s1.heap.objs.size], _, _, H1, rfl, I2, turn_enumS x t (s1.heap.objs.size + 1) s1.heap.objs.size, ⟨⟨.none, he⟩, hit, Nat.succ_ne_self _, Nat.zero_le _⟩, fun b hb => ?_, q⟩
    have e' : b = s1.heap.objs.size + 1 ∨ b = s1.heap.objs.size := by simpa using hb
    have hle : s1.heap.objs.size ≤ b := by
      rcases e' with z | z
      · rw [z]; exact Nat.le_add_right _ _
      · rw [z]; exact Nat.le_refl _
    exact I1.fpOk hle (I1.hok.fresh hle)
/-- the walk of it -/
theorem walk_enumS {x : Str} : Walk (ItS x) x.cps.size (fun _ => True) (fun i H v H' => ∃ T c, v = .ref T ∧ H T = none ∧ H' = upd H T (.tup [.int (i : Nat), .str ⟨#[c]⟩]) ∧ x.cps[i]? = some c) :=
  ⟨fun _ _ hi _ => hi, fun _ _ => Nat.le_refl _, fun _ _ _ _ _ _ y => y⟩
end Fld
namespace Fld
open PySem PySem.Spec PyProof.Rows L2
/-! ### the characters -/
def charCodes : List Nat := [32, 45, 46, 47, 48, 49, 50, 51, 52, 53, 54, 55, 56, 57, 58, 59, 61, 97, 98, 99, 100, 101, 102, 103, 104, 105, 106, 107, 108, 109, 110, 111, 112, 113, 114, 115, 116, 117, 118, 119, 120, 121, 122]
def chars : List (Int × V) := charCodes.map fun (c : Nat) => (((c : Nat) : Int), V.str ⟨#[c]⟩)
/-! ### the heap but for one object -/
def Off (p : Addr) (H : Hp) : Hp := fun b => if b = p then none else H b
/-- all but p stands -/
def But (p : Addr) (H H' : Hp) : Prop := ∀ b o, b ≠ p → H b = some o → H' b = some o
theorem But.refl (p : Addr) (H : Hp) : But p H H := fun _ _ _ h => h
theorem But.trans {p : Addr} {H H1 H2 : Hp} (a : But p H H1) (b : But p H1 H2) : But p H H2 := fun c o n h => b c o n (a c o n h)
theorem But.of {p : Addr} {H H' : Hp} (s : Same H H') : But p H H' := fun c o _ h => s c o h
theorem But.set {p : Addr} {H : Hp} {o : HO} : But p H (upd H p o) := fun c u n h => by rw [upd_ne n]; exact h
theorem But.new {p q : Addr} {H : Hp} {o : HO} (h : H q = none) : But p H (upd H q o) := fun c u n e => by rw [upd_ne (ne_of_none e h)]; exact e
theorem _root_.L2.Same.new {q : Addr} {H : Hp} {o : HO} (h : H q = none) : Same H (upd H q o) := fun c u e => by rw [upd_ne (ne_of_none e h)]; exact e
theorem But.put {p q : Addr} {H H' : Hp} {o : HO} (b : But p H H') (h : H q = none) : But p H (upd H' q o) := fun u v n e => by rw [upd_ne (ne_of_none e h)]; exact b u v n e
/-- what is true of all values of the heap but p -/
theorem But.none {p q : Addr} {H H' : Hp} (b : But p H H') (n : q ≠ p) (h : H' q = Option.none) : H q = Option.none := by
  cases e : H q with
  | none => rfl
  | some o => rw [b q o n e] at h; cases h
/-! ### the pen: a list of cells, how many were taken, what is left of the last -/
structure Pen (H : Hp) (p c : Addr) (n : Nat) : Prop where
  ex : ∃ (at_ : Nat) (acc : Int) (ns : List Int), H p = some (.lst [.ref c, .int (at_ : Nat), .int acc]) ∧ H c = some (.lst (ns.map V.int)) ∧ c ≠ p ∧ ns.length ≤ 63 ∧ at_ ≤ n
theorem Pen.mono {H : Hp} {p c : Addr} {n m : Nat} (h : Pen H p c n) (l : n ≤ m) : Pen H p c m := by
  obtain ⟨a, acc, ns, h1, h2, h3, h4, h5⟩ := h.ex
  exact ⟨a, acc, ns, h1, h2, h3, h4, Nat.le_trans h5 l⟩
theorem Pen.keep {H H' : Hp} {p c : Addr} {n : Nat} (h : Pen H p c n) (k : Same H H') : Pen H' p c n := by
  obtain ⟨a, acc, ns, h1, h2, h3, h4, h5⟩ := h.ex
  exact ⟨a, acc, ns, k _ _ h1, k _ _ h2, h3, h4, h5⟩
theorem Pen.some {H : Hp} {p c : Addr} {n : Nat} (h : Pen H p c n) : (∃ xs, H p = some (.lst xs)) ∧ ∃ xs, H c = some (.lst xs) := by
  obtain ⟨a, acc, ns, h1, h2, h3, h4, h5⟩ := h.ex
  exact ⟨⟨_, h1⟩, ⟨_, h2⟩⟩
theorem Pen.ne {H : Hp} {p c q : Addr} {n : Nat} (h : Pen H p c n) (hq : H q = none) : p ≠ q := by
  obtain ⟨⟨xs, e⟩, _⟩ := h.some
  exact ne_of_none e hq
theorem Pen.nec {H : Hp} {p c q : Addr} {n : Nat} (h : Pen H p c n) (hq : H q = none) : c ≠ q := by
  obtain ⟨_, ⟨xs, e⟩⟩ := h.some
  exact ne_of_none e hq
theorem Pen.upd {H : Hp} {p c q : Addr} {n : Nat} {o : HO} (h : Pen H p c n) (h1 : p ≠ q) (h2 : c ≠ q) : Pen (upd H q o) p c n := by
  obtain ⟨a, acc, ns, e1, e2, e3, e4, e5⟩ := h.ex
  exact ⟨a, acc, ns, by rw [upd_ne h1]; exact e1, by rw [upd_ne h2]; exact e2, e3, e4, e5⟩
/-- a draw: the pen may turn, all else stands -/
structure Drew (p c : Addr) (H H' : Hp) (n : Nat) : Prop where
  pen : Pen H' p c n
  but : But p H H'
theorem Drew.trans {p c : Addr} {H H1 H2 : Hp} {n m : Nat} (a : Drew p c H H1 n) (b : Drew p c H1 H2 m) : Drew p c H H2 m := ⟨b.pen, a.but.trans b.but⟩
theorem Drew.keep {p c : Addr} {H H1 H2 : Hp} {n : Nat} (a : Drew p c H H1 n) (s : Same H1 H2) : Drew p c H H2 n := ⟨a.pen.keep s, a.but.trans (But.of s)⟩
theorem Drew.mono {p c : Addr} {H H1 : Hp} {n m : Nat} (a : Drew p c H H1 n) (l : n ≤ m) : Drew p c H H1 m := ⟨a.pen.mono l, a.but⟩
theorem Drew.pre {p c : Addr} {H H1 H2 : Hp} {n : Nat} (s : Same H H1) (a : Drew p c H1 H2 n) : Drew p c H H2 n := ⟨a.pen, (But.of s).trans a.but⟩
/-- law's: a list of at most 63 ints is handed in, True comes out -/
def spLaw (K : PySem.W.Frag) : Sp := fun vs H Q _ => ∃ (a : Addr) (ns : List Int), vs = [.ref a] ∧ SqL K H a (ns.map V.int) ∧ ns.length ≤ 63 ∧ ∀ H', Q (.bl true) H'
end Fld
namespace Fld
open PySem PySem.Spec PyProof.Rows L2
/-! ### what kind of value -/
inductive Kind (K : PySem.W.Frag) (H : Hp) : V → String → Prop where
  | non : Kind K H .non "NoneType"
  | bl (b : Bool) : Kind K H (.bl b) "bool"
  | int (i : Int) : Kind K H (.int i) "int"
  | str (x : Str) : Kind K H (.str x) "str"
  | flt (x : UInt64) : Kind K H (.flt x) "float"
  | lst {a : Addr} {xs : List V} (h : SqL K H a xs) : Kind K H (.ref a) "list"
  | tup {a : Addr} {xs : List V} (h : SqT K H a xs) : Kind K H (.ref a) "tuple"
  | dK {a : Addr} {kvs : List (Key × V)} (h : H a = some (.dK kvs)) : Kind K H (.ref a) "dict"
theorem tyL {K : PySem.W.Frag} {H : Hp} {a : Addr} {xs : List V} (h : SqL K H a xs) : TyX K H (.ref a) (.type "list") := by
  rcases h with (h | ⟨o, h⟩) | ⟨o, its, n, h1, h2, _⟩
  · exact .base (.lst h)
  · exact .base (.frz h)
  · exact .kList h1 h2
theorem tyT {K : PySem.W.Frag} {H : Hp} {a : Addr} {xs : List V} (h : SqT K H a xs) : TyX K H (.ref a) (.type "tuple") := by
  rcases h with (h | ⟨o, h⟩) | ⟨o, its, n, h1, h2, _⟩
  · exact .base (.tup h)
  · exact .fTuple h
  · exact .kTuple h1 h2
theorem Kind.ty {K : PySem.W.Frag} {H : Hp} {v : V} {t : String} (k : Kind K H v t) : TyX K H v (.type t) := by
  cases k with
  | non => exact .base .non
  | bl b => exact .base (.bl b)
  | int i => exact .base (.int i)
  | str x => exact .base (.str x)
  | flt x => exact .base (.flt x)
  | lst h => exact tyL h
  | tup h => exact tyT h
  | dK h => exact .base (.dK h)
def subT (a b : String) : Bool := a == b || (a == "bool" && b == "int")
def clsNames : List String := ["int", "bool", "str", "list", "tuple", "dict"]
theorem kitAll : (["NoneType", "bool", "int", "str", "float", "list", "tuple", "dict"].all fun a => clsNames.all fun b => kitB a b == some (subT a b)) = true := by decide +kernel
theorem Kind.mem {K : PySem.W.Frag} {H : Hp} {v : V} {t : String} (k : Kind K H v t) : t ∈ ["NoneType", "bool", "int", "str", "float", "list", "tuple", "dict"] := by
  cases k <;> decide
theorem Kind.kit {K : PySem.W.Frag} {H : Hp} {v : V} {t b : String} (k : Kind K H v t) (hb : clsNames.contains b = true := by decide) : PySem.W.kitOne K (.type t) (.type b) = some (subT t b) := by
  have h := List.all_eq_true.mp kitAll t k.mem
  have h2 := List.all_eq_true.mp h b (List.contains_iff_mem.mp hb)
  exact kit_ty (eq_of_beq h2)
theorem Kind.kit2 {K : PySem.W.Frag} {H : Hp} {v : V} {t b c : String} (k : Kind K H v t) (hb : clsNames.contains b = true := by decide) (hc : clsNames.contains c = true := by decide) :
    PySem.W.kitAny K (.type t) [.type b, .type c] = some (subT t b || subT t c) := by
  refine kitAny_cons (k.kit hb) (fun e => ?_) fun e => ?_
  · rw [e]
    refine kitAny_cons (k.kit hc) (fun e2 => ?_) fun e2 => ?_
    · rw [e2]; exact kitAny_nil
    · rw [e2]; rfl
  · rw [e]; rfl
theorem Kind.keep {K : PySem.W.Frag} {H H' : Hp} {v : V} {t : String} (k : Kind K H v t) (s : Same H H') : Kind K H' v t := by
  cases k with
  | non => exact .non
  | bl b => exact .bl b
  | int i => exact .int i
  | str x => exact .str x
  | flt x => exact .flt x
  | lst h => exact .lst (s.seq h)
  | @tup a xs h =>
    refine .tup (xs := xs) ?_
    rcases h with (h | ⟨o, h⟩) | h
    · exact .inl (.inl (s _ _ h))
    · exact .inl (.inr ⟨o, s _ _ h⟩)
    · exact .inr h
  | dK h => exact .dK (s _ _ h)
theorem ifb {c : Bool} {A B : Prop} (h1 : c = true → A) (h2 : c = false → B) : if c = true then A else B := by
  cases c
  · rw [if_neg (by decide)]; exact h2 rfl
  · rw [if_pos rfl]; exact h1 rfl
theorem Q_bl {Q : VK} {a b : Bool} {H : Hp} (h : Q (.bl a) H) (e : a = b) : Q (.bl b) H := e ▸ h
theorem Q_int {Q : VK} {a b : Int} {H : Hp} (h : Q (.int a) H) (e : a = b) : Q (.int b) H := e ▸ h
/-! ### is_between -/
def btw : V → Int → Int → Bool
  | .int i, a, b => decide (a ≤ i) && decide (i ≤ b)
  | _, _, _ => false
def sp_is_between (K : PySem.W.Frag) : Sp := fun vs H Q _ => ∃ (v : V) (t : String) (a b : Int), vs = [v, .int a, .int b] ∧ Kind K H v t ∧ Q (.bl (btw v a b)) H
end Fld
namespace Fld
open PySem PySem.Spec PyProof.Rows L2
/-! ### comprehensions -/
section
variable {J : It} {n : Nat} {G : Hp → Prop} {Y : Nat → Hp → V → Hp → Prop} {g : TG} {tt : TT} {te : TE} {vs : List Nat} {σ : L2.St} {H1 : Hp} {D : Addr} {Qd : Hp → Prop}
theorem yesI {σ : L2.St} {H : Hp} {A B : Hp → Prop} (h : A H) : tYes σ H (fun b H3 => if b = true then A H3 else B H3) := by
  show (if true = true then A H else B H)
  rw [if_pos rfl]; exact h
/-- by an invariant of the turn, the items so far, the heap -/
theorem lc_gen (w : Walk J n G Y) (I : Nat → List V → Hp → Prop) (hz : n ≤ 1000000) (h0 : I 0 [] (upd H1 D (.lst []))) (hG : ∀ i ys H, I i ys H → G H)
    (hs : ∀ i ys x H' H'' (Q' : VK) (Z : Hp → Prop), i < n → ys.length = i → H' D = some (.lst ys) → I i ys H' → Y i H' x H'' → (∀ y H4, H4 D = some (.lst ys) → I (i + 1) (ys ++ [y]) (upd H4 D (.lst (ys ++ [y]))) → Q' y H4) →
      g x (wipe σ vs) H'' fun σ2 H2 => wipe σ2 vs = wipe σ vs ∧ tYes σ2 H2 fun b H3 => if b = true then te σ2 H3 Q' else Z H3)
    (hd : ∀ ys H', ys.length = n → H' D = some (.lst ys) → I n ys H' → Qd H') :
    ∃ W : Nat → Nat → Hp → Prop, (∃ m, W 0 m (upd H1 D (.lst []))) ∧ ∀ i m H, W i m H →
      (J.stop i H ∧ Qd H) ∨ (J.go i H ∧ ∃ Nx : Hp → Prop, (∀ H', Nx H' → ∃ m', m' < m ∧ W (i + 1) m' H') ∧ ∀ x H', J.yld i H x H' → g x (wipe σ vs) H' fun σ2 H2 => wipe σ2 vs = wipe σ vs ∧ tYes σ2 H2 fun b H3 =>
        if b = true then te σ2 H3 fun y H4 => ∃ acc, H4 D = some (.lst acc) ∧ acc.length < sizeLine ∧ Nx (upd H4 D (.lst (acc ++ [y]))) else Nx H3) := by
  refine lc_it w (fun i H => ∃ ys : List V, ys.length = i ∧ H D = some (.lst ys) ∧ I i ys H) ⟨[], rfl, upd_same, h0⟩ (fun i H _ ⟨ys, _, _, h⟩ => hG i ys H h) ?_ ?_
  · rintro i x H H' hi ⟨ys, hl, hD, h⟩ y
    refine hs i ys x H H' _ _ hi hl hD h y fun z H4 e4 h4 => ?_
    refine ⟨ys, e4, ?_, ys ++ [z], by simp [hl], upd_same, h4⟩
    rw [sizeLine_eq]
    omega
  · rintro H ⟨ys, hl, hD, h⟩
    exact hd ys H hl hD h
/-- each item its value, all that stood stands -/
theorem lc_map (w : Walk J n G Y) (f : Nat → V) (hz : n ≤ 1000000) (hD : H1 D = none) (hG : ∀ H, Same H1 H → G H)
    (hs : ∀ i x H' H'' (Q' : VK) (Z : Hp → Prop), i < n → Same H1 H' → Y i H' x H'' → (∀ H4, Same H' H4 → Q' (f i) H4) →
      g x (wipe σ vs) H'' fun σ2 H2 => wipe σ2 vs = wipe σ vs ∧ tYes σ2 H2 fun b H3 => if b = true then te σ2 H3 Q' else Z H3)
    (hd : ∀ H', Same H1 H' → H' D = some (.lst ((List.range n).map f)) → Qd H') :
    ∃ W : Nat → Nat → Hp → Prop, (∃ m, W 0 m (upd H1 D (.lst []))) ∧ ∀ i m H, W i m H →
      (J.stop i H ∧ Qd H) ∨ (J.go i H ∧ ∃ Nx : Hp → Prop, (∀ H', Nx H' → ∃ m', m' < m ∧ W (i + 1) m' H') ∧ ∀ x H', J.yld i H x H' → g x (wipe σ vs) H' fun σ2 H2 => wipe σ2 vs = wipe σ vs ∧ tYes σ2 H2 fun b H3 =>
        if b = true then te σ2 H3 fun y H4 => ∃ acc, H4 D = some (.lst acc) ∧ acc.length < sizeLine ∧ Nx (upd H4 D (.lst (acc ++ [y]))) else Nx H3) := by
  have up : ∀ H o, Same H1 H → Same H1 (upd H D o) := fun H o s b u e => by rw [upd_ne (ne_of_none e hD)]; exact s b u e
  refine lc_gen w (fun i ys H => Same H1 H ∧ ys = (List.range i).map f) hz ⟨up _ _ (Same.refl _), rfl⟩ (fun i ys H h => hG H h.1) ?_ ?_
  · rintro i ys x H H' Q' Z hi hl hDl ⟨s, rfl⟩ y q
    refine hs i x H H' Q' Z hi s y fun H4 s4 => q (f i) H4 (s4 D _ hDl) ⟨up _ _ (s.trans s4), ?_⟩
    rw [List.range_succ, List.map_append]
    rfl
  · rintro ys H hl hDl ⟨s, rfl⟩
    exact hd H s hDl
end
/-- the items of a list by their places -/
theorem range_map {α β : Type} (l : List α) (f : α → β) (d : α) : (List.range l.length).map (fun i => f (l.getD i d)) = l.map f := by
  apply List.ext_getElem?
  intro i
  by_cases h : i < l.length
  · simp [h]
  · have h2 : l.length ≤ i := Nat.not_lt.mp h
    simp [h2]
theorem getD_of {α : Type} {l : List α} {i : Nat} {c : α} (d : α) (h : l[i]? = some c) : l.getD i d = c := by
  rw [List.getD_eq_getElem?_getD, h]; rfl
theorem cps_at {x : Str} {i c : Nat} (h : x.cps[i]? = some c) : x.cps.toList[i]? = some c := by
  rw [Array.getElem?_toList]; exact h
/-! ### texts and numbers -/
def isChar (c : Nat) : Bool := charCodes.contains c
theorem valI_chars (c : Nat) : (valI chars (c : Int)) = if isChar c then some (.str ⟨#[c]⟩) else none := by
  unfold valI chars isChar
  have h : ∀ l : List Nat, ((l.map fun (c : Nat) => (((c : Nat) : Int), V.str ⟨#[c]⟩)).find? fun p => p.1 == (c : Int)).map (·.2) = if l.contains c then some (V.str ⟨#[c]⟩) else none := by
    intro l
    induction l with
    | nil => rfl
    | cons a r ih =>
      rw [List.map_cons, List.find?_cons, List.contains_cons]
      by_cases e : a = c
      · subst e; simp
      · have e1 : (((a : Nat) : Int) == (c : Int)) = false := by
          rw [beq_eq_false_iff_ne]; intro q; exact e (by omega)
        have e2 : (c == a) = false := by rw [beq_eq_false_iff_ne]; exact fun q => e q.symm
        simp only [e1, e2, Bool.false_or]
        exact ih
  exact h charCodes
def txt : V → Int → Int → Bool
  | .str x, a, b => decide (a ≤ (x.length : Int)) && decide ((x.length : Int) ≤ b) && x.cps.toList.all isChar
  | _, _, _ => false
def sp_is_text (K : PySem.W.Frag) : Sp := fun vs H Q _ => ∃ (v : V) (t : String) (a b : Int), vs = [v, .int a, .int b] ∧ Kind K H v t ∧ (∀ x, v = .str x → x.length ≤ 100000) ∧ ∀ H', Same H H' → Q (.bl (txt v a b)) H'
def sp_is_value (K : PySem.W.Frag) : Sp := fun vs H Q _ => ∃ (v : V) (t : String), vs = [v] ∧ Kind K H v t ∧ (∀ x, v = .str x → x.length ≤ 100000) ∧ ∀ H', Same H H' → Q (.bl (txt v 0 40)) H'
def sp_is_number (K : PySem.W.Frag) : Sp := fun vs H Q _ => ∃ (v : V) (t : String), vs = [v] ∧ Kind K H v t ∧ Q (.bl (btw v 0 9999)) H
def sp_prefix_bits : Sp := fun vs H Q _ => ∃ (b : Nat), vs = [.int (b : Nat)] ∧ b ≤ 64 ∧ Q (.int (2 ^ b - 1)) H
theorem len100 {n : Nat} (h : n ≤ 100000) : n ≤ sizeLine := by rw [sizeLine_eq]; omega
theorem str_len (x : Str) : x.length = x.cps.toList.length := rfl
end Fld
namespace Fld
open PySem PySem.Spec PyProof.Rows L2
theorem ifF {c : Bool} {A B : Prop} (h : c = false) (b : B) : if c = true then A else B := by
  rw [h, if_neg (by decide)]; exact b
theorem ifT {c : Bool} {A B : Prop} (h : c = true) (a : A) : if c = true then A else B := by
  rw [h, if_pos rfl]; exact a
theorem _root_.L2.Same.at {H H' : Hp} {p : Addr} {o : HO} (hp : H p = none) : Same H (upd H p o) := Same.new hp
theorem _root_.L2.Same.put {H H' : Hp} {p : Addr} {o : HO} (s : Same H H') (hp : H p = none) : Same H (upd H' p o) := fun b u e => by rw [upd_ne (ne_of_none e hp)]; exact s b u e
theorem _root_.L2.Same.tup {K : PySem.W.Frag} {H H' : Hp} {a : Addr} {xs : List V} (s : Same H H') (h : SqT K H a xs) : SqT K H' a xs := by
  rcases h with (h | ⟨o, h⟩) | h
  · exact .inl (.inl (s _ _ h))
  · exact .inl (.inr ⟨o, s _ _ h⟩)
  · exact .inr h
theorem btw_t {n a b : Int} (h1 : a ≤ n) (h2 : n ≤ b) : btw (.int n) a b = true := by
  show (decide (a ≤ n) && decide (n ≤ b)) = true
  rw [decide_eq_true h1, decide_eq_true h2]; rfl
/-! ### the octets of a number -/
def restOct (r : Nat) : List Int := if r < 128 then [(r : Int)] else (128 + (r : Int) % 128) :: restOct (r / 128)
termination_by r
theorem restOct_lt {r : Nat} (h : r < 128) : restOct r = [(r : Int)] := by rw [restOct, if_pos h]
theorem restOct_ge {r : Nat} (h : ¬ r < 128) : restOct r = (128 + (r : Int) % 128) :: restOct (r / 128) := by rw [restOct, if_neg h]
theorem restOct_len (r : Nat) : (restOct r).length ≤ r + 1 := by
  induction r using Nat.strongRecOn with
  | _ r ih =>
    by_cases h : r < 128
    · rw [restOct_lt h]; simp
    · rw [restOct_ge h, List.length_cons]
      have := ih (r / 128) (by omega)
      omega
def numOct (n b m : Nat) : List Int := if n < 2 ^ b - 1 then [((m + n : Nat) : Int)] else ((m + (2 ^ b - 1) : Nat) : Int) :: restOct (n - (2 ^ b - 1))
theorem numOct_len (n b m : Nat) : (numOct n b m).length ≤ n + 2 := by
  unfold numOct
  split
  · simp
  · have := restOct_len (n - (2 ^ b - 1))
    rw [List.length_cons]
    omega
theorem pow_pos2 (b : Nat) : 0 < 2 ^ b := Nat.pow_pos (by decide)
theorem bits_cast (b : Nat) : ((2 : Int) ^ b - 1) = ((2 ^ b - 1 : Nat) : Int) := by
  have h := pow_pos2 b
  have e : ((2 : Int) ^ b) = ((2 ^ b : Nat) : Int) := by norm_cast
  rw [e]
  omega
theorem pow_le8 {b : Nat} (h : b ≤ 8) : 2 ^ b ≤ 256 := Nat.le_trans (Nat.pow_le_pow_right (by decide) h) (by decide)
/-- a mark that leaves the prefix alone -/
def MarkOk (b m : Nat) : Prop := 1 ≤ b ∧ b ≤ 8 ∧ m ≤ 255 ∧ Builtin.bitAnd (m : Int) (((2 ^ b - 1 : Nat)) : Int) = 0
theorem and127 {r : Int} (h : 0 ≤ r) : Builtin.bitAnd r 127 = r % 128 := Bits.bitAnd_mask 7 h
/-- a new list of ints is handed back -/
def RetInts (ns : List Int) (H : Hp) (Q : VK) : Prop := ∀ p H', H p = none → Same H H' → H' p = some (.lst (ns.map V.int)) → Q (.ref p) H'
def sp_check_prefix : Sp := fun vs H Q _ => ∃ b m : Nat, vs = [.int (b : Nat), .int (m : Nat)] ∧ MarkOk b m ∧ Q .non H
def sp_number_octets : Sp := fun vs H Q _ => ∃ n b m : Nat, vs = [.int (n : Nat), .int (b : Nat), .int (m : Nat)] ∧ n ≤ 9999 ∧ MarkOk b m ∧ RetInts (numOct n b m) H Q
def sp_string_octets : Sp := fun vs H Q _ => ∃ (x : Str) (b m : Nat), vs = [.str x, .int (b : Nat), .int (m : Nat)] ∧ txt (.str x) 0 40 = true ∧ MarkOk b m ∧ RetInts (numOct x.length b m ++ x.cps.toList.map fun (c : Nat) => (c : Int)) H Q
def sp_law_number_octets : Sp := fun vs H Q _ => ∃ n b m : Nat, vs = [.int (n : Nat), .int (b : Nat), .int (m : Nat)] ∧ n ≤ 9999 ∧ b ≤ 8 ∧ RetInts (numOct n b m) H Q
def codeOf (c : Nat) : Int := if isChar c then (c : Int) else 0
def sp_law_code : Sp := fun vs H Q _ => ∃ c : Nat, vs = [.str ⟨#[c]⟩] ∧ ∀ H', Same H H' → Q (.int (codeOf c)) H'
def sp_law_text_octets : Sp := fun vs H Q _ => ∃ (x : Str) (b m : Nat), vs = [.str x, .int (b : Nat), .int (m : Nat)] ∧ x.length ≤ 9999 ∧ b ≤ 8 ∧ RetInts (numOct x.length b m ++ x.cps.toList.map codeOf) H Q
theorem txt_len {x : Str} (h : txt (.str x) 0 40 = true) : x.length ≤ 40 := by
  have h' : (decide ((0 : Int) ≤ (x.length : Int)) && decide ((x.length : Int) ≤ 40) && x.cps.toList.all isChar) = true := h
  simp only [Bool.and_eq_true, decide_eq_true_eq] at h'
  omega
theorem txt_all {x : Str} {a b : Int} (h : txt (.str x) a b = true) : x.cps.toList.all isChar = true := by
  have h' : (decide (a ≤ (x.length : Int)) && decide ((x.length : Int) ≤ b) && x.cps.toList.all isChar) = true := h
  rw [Bool.and_eq_true] at h'
  exact h'.2
def codeRows : List (List Nat) := [(" " : Str).cps.toList, ("-./0123456789:;" : Str).cps.toList, ("=" : Str).cps.toList, ("abcdefghijklmnopqrstuvwxyz" : Str).cps.toList]
theorem codeRows_all : codeRows.flatten = charCodes := by decide +kernel
theorem code_yes {c : Nat} (i : Nat) {r : List Nat} (h : codeRows[i]? = some r) (hm : c ∈ r) : isChar c = true := by
  unfold isChar
  rw [← codeRows_all]
  exact List.contains_iff_mem.mpr (List.mem_flatten.mpr ⟨r, List.mem_of_getElem? h, hm⟩)
theorem code_no {c : Nat} (i : Nat) {r : List Nat} (h : codeRows[i]? = some r) (hc : c ∉ (codeRows.take i).flatten) (hm : c ∉ r) : c ∉ (codeRows.take (i + 1)).flatten := by
  rw [List.take_add_one, h, List.flatten_append]
  intro z
  rcases List.mem_append.mp z with z | z
  · exact hc z
  · exact hm (by simpa using z)
theorem code_none {c : Nat} (hc : c ∉ (codeRows.take 4).flatten) : isChar c = false := by
  unfold isChar
  rw [← codeRows_all]
  have e : codeRows.take 4 = codeRows := rfl
  rw [e] at hc
  cases h : codeRows.flatten.contains c
  · rfl
  · exact absurd (List.contains_iff_mem.mp h) hc
theorem row_ok {x : Str} {first : Nat} (h : ((List.range x.cps.size).all fun i => x.cps.toList.getD i 0 == first + i) = true) : ∀ i r, x.cps[i]? = some r → r = first + i := by
  intro i r hr
  have hi : i < x.cps.size := (Array.getElem?_eq_some_iff.mp hr).1
  have e := eq_of_beq (List.all_eq_true.mp h i (List.mem_range.mpr hi))
  rw [getD_of 0 (cps_at hr)] at e
  exact e
theorem codes_chars {x : Str} (h : x.cps.toList.all isChar = true) : x.cps.toList.map codeOf = x.cps.toList.map fun (c : Nat) => (c : Int) := by
  apply List.map_congr_left
  intro c hc
  have := List.all_eq_true.mp h c hc
  unfold codeOf
  rw [if_pos this]
end Fld
namespace Fld
open PySem PySem.Spec PyProof.Rows L2
theorem at_ofN {α : Type} {xs : List α} {z : Int} {j : Nat} {v : α} (e : z = (j : Int)) (h : xs[j]? = some v) : atI xs z = some v := by
  rw [e]; exact atI_nat h
/-! ### slices by places -/
theorem cut_to (xs : List V) (k : Nat) : cutV xs none (some (k : Int)) = xs.take k := by
  unfold cutV
  rw [HT.sIx_none, HT.sIx_nat, List.drop_zero, Nat.sub_zero]
  by_cases h : k ≤ xs.length
  · rw [Nat.min_eq_left h]
  · rw [Nat.min_eq_right (by omega), List.take_of_length_le (Nat.le_refl _), List.take_of_length_le (by omega)]
theorem cut_mid (xs : List V) (a b : Nat) : cutV xs (some (a : Int)) (some (b : Int)) = (xs.drop a).take (b - a) := by
  unfold cutV
  rw [HT.sIx_nat, HT.sIx_nat]
  by_cases h : a ≤ xs.length
  · have e1 : min a xs.length = a := by omega
    rw [e1]
    by_cases h2 : b ≤ xs.length
    · have e2 : min b xs.length = b := by omega
      rw [e2]
    · rw [List.take_of_length_le (by rw [List.length_drop]; omega), List.take_of_length_le (by rw [List.length_drop]; omega)]
  · have e1 : min a xs.length = xs.length := by omega
    rw [e1, List.drop_eq_nil_of_le (Nat.le_refl _), List.drop_eq_nil_of_le (by omega), List.take_nil, List.take_nil]
theorem cut_from (xs : List V) (a : Nat) : cutV xs (some (a : Int)) none = xs.drop a := by
  unfold cutV
  rw [HT.sIx_nat, HT.sIx_none]
  by_cases h : a ≤ xs.length
  · rw [Nat.min_eq_left h, List.take_of_length_le (by rw [List.length_drop]; omega)]
  · rw [Nat.min_eq_right (by omega), List.drop_eq_nil_of_le (Nat.le_refl _), List.drop_eq_nil_of_le (by omega), List.take_nil]
/-! ### the spread -/
def primes : List Int := [2147483629, 2147483587, 2147483579, 2147483563, 2147483549, 2147483543, 2147483497, 2147483489, 2147483477, 2147483423, 2147483399, 2147483353, 2147483323]
theorem primes_at {k : Int} (h0 : 0 ≤ k) (h : k < 13) : ∃ r : Int, atI (primes.map V.int) k = some (.int r) ∧ 0 < r ∧ r < 2147483648 := by
  have hk : k.toNat < 13 := by omega
  have ek : k = ((k.toNat : Nat) : Int) := by omega
  have hall : ((List.range 13).all fun i => (primes[i]?).any fun r => decide (0 < r) && decide (r < 2147483648)) = true := by decide
  have h1 := List.all_eq_true.mp hall k.toNat (List.mem_range.mpr hk)
  cases e : primes[k.toNat]? with
  | none => rw [e] at h1; cases h1
  | some r =>
    rw [e] at h1
    have h2 : (decide (0 < r) && decide (r < 2147483648)) = true := h1
    rw [Bool.and_eq_true, decide_eq_true_eq, decide_eq_true_eq] at h2
    refine ⟨r, ?_, h2.1, h2.2⟩
    rw [ek]
    exact atI_nat (by rw [List.getElem?_map, e]; rfl)
theorem pow_small {i : Int} (h0 : 0 ≤ i) (h : i < 10 ^ 18) : i.natAbs < 2 ^ 64 := by
  have : (10 : Int) ^ 18 < 2 ^ 63 := by decide
  have e : (2 : Nat) ^ 64 = 18446744073709551616 := by decide
  have e2 : (10 : Int) ^ 18 = 1000000000000000000 := by decide
  omega
theorem mul_bd {a b A B : Int} (h1 : 0 ≤ a) (h2 : a ≤ A) (h3 : 0 ≤ b) (h4 : b ≤ B) : 0 ≤ a * b ∧ a * b ≤ A * B :=
  ⟨Int.mul_nonneg h1 h3, Int.mul_le_mul h2 h4 h3 (Int.le_trans h1 h2)⟩
theorem mul64 {a b : Int} (h1 : 0 ≤ a) (h2 : a < 10 ^ 18) : CMul a b := by
  have e : (2 : Int) ^ 64 = 18446744073709551616 := by decide
  have e2 : (10 : Int) ^ 18 = 1000000000000000000 := by decide
  refine .inl ⟨?_, ?_⟩ <;> omega
def sp_law_spread : Sp := fun vs H Q _ => ∃ (cell : Int) (a : Nat), vs = [.int cell, .int (a : Nat)] ∧ a ≤ 1000000 ∧ ∀ (r : Int) H', Same H H' → Q (.int r) H'
def sp_law_open (K : PySem.W.Frag) : Sp := fun vs H Q _ => ∃ (a : Addr) (ns : List Int), vs = [.ref a] ∧ SqL K H a (ns.map V.int) ∧ ns.length ≤ 63 ∧ ∀ p c H', H p = none → Same H H' → Pen H' p c 0 → Q (.ref p) H'
def sp_law_take : Sp := fun vs H Q _ => ∃ (p c : Addr) (n : Nat) (k : Int), vs = [.ref p, .int k] ∧ Pen H p c n ∧ 0 < k ∧ k < 1073741824 ∧ n ≤ 900000 ∧ ∀ (r : Int) H', 0 ≤ r → r < k → Drew p c H H' (n + 1) → Q (.int r) H'
/-- one of a list's items, whatever they are -/
def sp_law_one_of (K : PySem.W.Frag) : Sp := fun vs H Q _ => ∃ (p c a : Addr) (n : Nat) (xs : List V), vs = [.ref p, .ref a] ∧ Pen H p c n ∧ SqL K H a xs ∧ a ≠ p ∧ xs ≠ [] ∧ xs.length ≤ 1000 ∧ n ≤ 900000 ∧ ∀ (x : V) H', x ∈ xs → Drew p c H H' (n + 1) → Q x H'
def signs : Str := " -./0123456789:;=abcdefghijklmnopqrstuvwxyz"
def sp_law_signs : Sp := fun vs H Q _ => vs = [] ∧ Q (.str signs) H
theorem signs_cps : signs.cps.toList = charCodes := by decide +kernel
theorem But.seq {K : PySem.W.Frag} {p : Addr} {H H' : Hp} {a : Addr} {xs : List V} (b : But p H H') (n : a ≠ p) (h : SqL K H a xs) : SqL K H' a xs := by
  rcases h with (h | ⟨o, h⟩) | h
  · exact .inl (.inl (b _ _ n h))
  · exact .inl (.inr ⟨o, b _ _ n h⟩)
  · exact .inr h
end Fld
namespace Fld
open PySem PySem.Spec PyProof.Rows L2
def sp_law_draw_text : Sp := fun vs H Q _ => ∃ (p c : Addr) (n a b : Nat), vs = [.ref p, .int (a : Nat), .int (b : Nat)] ∧ Pen H p c n ∧ n ≤ 800000 ∧ a ≤ 1 ∧ a ≤ b ∧ b ≤ 40 ∧ ∀ (x : Str) H', txt (.str x) a b = true → Drew p c H H' (n + 50) → Q (.str x) H'
def sp_law_draw_number : Sp := fun vs H Q _ => ∃ (p c : Addr) (n : Nat), vs = [.ref p] ∧ Pen H p c n ∧ n ≤ 800000 ∧ ∀ (z : Nat) H', z ≤ 9999 → Drew p c H H' (n + 10) → Q (.int (z : Nat)) H'
theorem txt_of {x : Str} {a b : Int} (h1 : a ≤ (x.length : Int)) (h2 : (x.length : Int) ≤ b) (h3 : x.cps.toList.all isChar = true) : txt (.str x) a b = true := by
  show (decide (a ≤ (x.length : Int)) && decide ((x.length : Int) ≤ b) && x.cps.toList.all isChar) = true
  rw [decide_eq_true h1, decide_eq_true h2, h3]; rfl
/-- a text of one sign after another -/
theorem join_signs (cs : List Nat) : Txt.join ⟨#[]⟩ (cs.map fun c => (⟨#[c]⟩ : Str)) = ⟨cs.toArray⟩ := by
  rw [TL.join_eq]
  apply TL.ext_tl
  rw [TL.tl_join]
  have h : ∀ l : List Nat, TL.joinL (TL.tl (⟨#[]⟩ : Str)) ((l.map fun c => (⟨#[c]⟩ : Str)).map TL.tl) = l := by
    intro l
    induction l with
    | nil => rfl
    | cons a r ih =>
      cases r with
      | nil => rfl
      | cons b r' =>
        show [a] ++ ([] ++ TL.joinL [] _) = a :: b :: r'
        exact congrArg (a :: ·) ih
  rw [h]
/-- the first signs of a word repeated -/
theorem rep_all {z : Str} {n : Nat} (h : z.cps.toList.all isChar = true) : (repS z n).cps.toList.all isChar = true := by
  rw [repS_tl]
  rw [List.all_eq_true]
  intro c hc
  obtain ⟨l, hl, hcl⟩ := List.mem_flatten.mp hc
  rw [List.mem_replicate] at hl
  rw [hl.2] at hcl
  exact List.all_eq_true.mp h c hcl
theorem rep_len (z : Str) (n : Nat) : (repS z n).length = n * z.length := by
  show (List.replicate n z.cps.toList).flatten.toArray.size = _
  simp
  rfl
theorem cutS_to (x : Str) (k : Nat) : (cutS x none (some (k : Int))).cps.toList = x.cps.toList.take k := by
  unfold cutS
  show (x.cps.toList.drop _).take _ = _
  rw [HT.sIx_none, HT.sIx_nat, List.drop_zero, Nat.sub_zero]
  have e : x.length = x.cps.toList.length := rfl
  rw [e]
  by_cases h : k ≤ x.cps.toList.length
  · rw [Nat.min_eq_left h]
  · rw [Nat.min_eq_right (by omega), List.take_of_length_le (Nat.le_refl _), List.take_of_length_le (by omega)]
theorem txt_cut {x : Str} {a b k : Nat} (h1 : 9 ≤ x.length) (h2 : a ≤ 1 ∧ a ≤ k ∧ k ≤ b) (h3 : x.cps.toList.all isChar = true) : txt (.str (cutS x none (some (k : Int)))) a b = true := by
  have e : (cutS x none (some (k : Int))).cps.toList = x.cps.toList.take k := cutS_to x k
  have hl : (cutS x none (some (k : Int))).length = min k x.length := by
    show (cutS x none (some (k : Int))).cps.size = _
    rw [← Array.length_toList, e, List.length_take]
    rfl
  refine txt_of (by omega) (by omega) ?_
  rw [e, List.all_eq_true]
  intro c hc
  exact List.all_eq_true.mp h3 c (List.mem_of_mem_take hc)
def textWords : List Str := ["path", "accept-encoding", "a", ":method", "x=1; y=2"]
theorem words_ok : (textWords.all fun z => z.cps.toList.all isChar && decide (0 < z.length) && decide (z.length ≤ 15)) = true := by decide +kernel
/-! ### data of a bounded depth -/
def DLe : Nat → PyData → Prop
  | _, .none => True
  | _, .bool _ => True
  | _, .int _ => True
  | _, .str _ => True
  | 0, .list _ => False
  | 0, .tuple _ => False
  | n + 1, .list ds => ds.length ≤ 100000 ∧ ∀ d ∈ ds, DLe n d
  | n + 1, .tuple ds => ds.length ≤ 100000 ∧ ∀ d ∈ ds, DLe n d
  | _, _ => False
theorem dpAll_len {K : PySem.W.Frag} {H : Hp} : ∀ {xs : List V} {ds : List PyData}, DpAll K H xs ds → xs.length = ds.length
  | _, _, .nil => rfl
  | _, _, .cons _ t => by rw [List.length_cons, List.length_cons, dpAll_len t]
theorem dpAll_at {K : PySem.W.Frag} {H : Hp} : ∀ {xs : List V} {ds : List PyData} {i : Nat} {x : V}, DpAll K H xs ds → xs[i]? = some x → ∃ d, ds[i]? = some d ∧ Dp K H x d
  | _, _, _, _, .nil, e => by simp at e
  | _, _, 0, _, .cons h _, e => by simp at e; subst e; exact ⟨_, rfl, h⟩
  | _, _, i + 1, x, .cons _ t, e => by
    obtain ⟨d, h1, h2⟩ := dpAll_at (i := i) (x := x) t (by simpa using e)
    exact ⟨d, by simpa using h1, h2⟩
mutual
theorem dp_keep {K : PySem.W.Frag} {H H' : Hp} (s : Same H H') : ∀ {v : V} {d : PyData}, Dp K H v d → Dp K H' v d
  | _, _, .non => .non
  | _, _, .bl b => .bl b
  | _, _, .int i => .int i
  | _, _, .str x => .str x
  | _, _, .lst h a => .lst (s.seq h) (dpAll_keep s a)
  | _, _, .tup h a => .tup (s.tup h) (dpAll_keep s a)
theorem dpAll_keep {K : PySem.W.Frag} {H H' : Hp} (s : Same H H') : ∀ {vs : List V} {ds : List PyData}, DpAll K H vs ds → DpAll K H' vs ds
  | _, _, .nil => .nil
  | _, _, .cons h t => .cons (dp_keep s h) (dpAll_keep s t)
end
/-- _law_same on two values of the same data -/
def sp_law_same (K : PySem.W.Frag) (n : Nat) : Sp := fun vs H Q _ => ∃ (v u : V) (d : PyData), vs = [v, u] ∧ Dp K H v d ∧ Dp K H u d ∧ DLe n d ∧ ∀ H', Same H H' → Q (.bl true) H'
def sp_same_sub (K : PySem.W.Frag) : Nat → Sp
  | 0 => fun _ _ _ _ => False
  | m + 1 => sp_law_same K m
theorem walk_zipT {K : PySem.W.Frag} {a b : Addr} {xs ys : List V} {n : Nat} (hn : n = min xs.length ys.length) : Walk (RZ.ItzT K a b) n (fun H => SqT K H a xs ∧ SqT K H b ys) (YPair (fun i => xs[i]?) (fun i => ys[i]?)) := by
  subst hn
  refine ⟨fun i _ hi q => ?_, fun _ q => ⟨xs, ys, q.1, q.2, by omega⟩, fun i H v H' _ q y => ?_⟩
  · have h1 : i < xs.length := by omega
    have h2 : i < ys.length := by omega
    exact ⟨xs, ys, xs[i], ys[i], q.1, q.2, by simp [h1], by simp [h2]⟩
  · obtain ⟨T, x, z, h1, h2, h3, h4, h5⟩ := y
    exact ⟨T, x, z, h1, h2, h3, h4 xs q.1, h5 ys q.2⟩
theorem flat_trues (n : Nat) : ((List.range n).map fun _ => V.bl true).all flatV = true := by
  rw [List.all_map]; exact List.all_eq_true.mpr fun _ _ => rfl
theorem in_trues (n : Nat) : inV (.bl false) ((List.range n).map fun _ => V.bl true) = false := by
  unfold inV
  rw [List.any_map, List.any_eq_false]
  intro i _
  show ¬ (eqV (.bl true) (.bl false)) = true
  decide
/-- ints as data -/
theorem dp_ints {K : PySem.W.Frag} {H : Hp} : ∀ ns : List Int, DpAll K H (ns.map V.int) (ns.map PyData.int)
  | [] => .nil
  | n :: r => .cons (.int n) (dp_ints r)
theorem dp_lst {K : PySem.W.Frag} {H : Hp} {a : Addr} {ns : List Int} (h : H a = some (.lst (ns.map V.int))) : Dp K H (.ref a) (.list (ns.map PyData.int)) := .lst (SqL.of h) (dp_ints ns)
theorem dle_ints {ns : List Int} (h : ns.length ≤ 100000) (n : Nat) : DLe (n + 1) (.list (ns.map PyData.int)) := by
  refine ⟨by rw [List.length_map]; exact h, fun d hd => ?_⟩
  obtain ⟨i, _, rfl⟩ := List.mem_map.mp hd
  cases n <;> exact True.intro
end Fld
/-! The law's own def where what runs around it is known: no repr, no == is under way (Around.guards), so that repr of data may be walked in it. -/
namespace Fld
open PySem PySem.Spec PyProof.Rows L2
/-- a def as it is called from outside -/
structure TopOk (P : Program) (w : World) (K : PySem.W.Frag) (mg : Str → Option Value) (k : Nat) (f : Addr) (fd : FuncData) (ps : List Str) (sp : Sp) : Prop where
  len : ∀ vs H Q E, sp vs H Q E → vs.length = ps.length
  run : ∀ (base : Heap) (s : Shared) (H : Hp) (args : Args) (us : List Value) (vs : List V) (Q : VK) (E : XK), Room k callerA → Env0 P w K mg base callerA [] s H → BindsTo s fd args (ps.zip us) → Vals vs us → sp vs H Q E →
    codeAny (model P w) callerA (.call (.ref f) args) (CR CX0 [] P w H s Q E) s
/-- its body as a term of rules and the term's reading, the guards told -/
theorem top_of {P : Program} {w : World} {K : PySem.W.Frag} {mg : Str → Option Value} {x qual : Str} {st : Stmt} {f : Addr} {fd : FuncData} {N ps : List Str} {k : Nat} {sp : Sp} (F : Fun K x qual st f fd) (S : FnScope N ps (defScope st))
    (len : ∀ vs H Q E, sp vs H Q E → vs.length = ps.length)
    (hbody : ∀ (base : Heap) (cdv : Value) (A : Around) (outer : List Env) (s : Shared) (H : Hp) (vs : List V) (Q : VK) (E : XK), A.guards = some [] → Room k (A.deeper (envOfC qual (defScope st) s.heap.objs.size f cdv)) → sp vs H Q E →
      ∃ t, PSs (cxOf CX0 P w K mg base N qual (defScope st) f cdv A outer s H E).nox (defBody st) t ∧ t { nx := fun _ H' => Q .non H', rt := Q } (start N vs) H) :
    TopOk P w K mg (k + 1) f fd ps sp := by
  obtain ⟨oc, od, kV, doc, pm, an, cdv, ct, osl, rfl, lk, hcd⟩ := F.ex
  refine ⟨len, ?_⟩
  intro base s H args us vs Q E hr e0 hb r hsp
  have old := fun b o (e : base.get? b = some o) => (e0.bs b o e).1
  have KX : K.In s.heap := e0.mod.kin.keeps old
  have kinds : ∀ y ∈ ps.zip us, (defScope st).names.lookup y.1 = some .local ∨ ((defScope st).names.lookup y.1 = some .cell ∧ ((cellsFrom (s.heap.objs.size + 1) (defScope st).names []).lookup y.1).isSome = true) := by
    rintro ⟨n, v⟩ hy
    have hp := S.par n (List.of_mem_zip hy).1
    exact hp.elim Or.inl fun q => Or.inr ⟨q, PySem.W.cellsFrom_some _ _ _ (Or.inl q)⟩
  refine codeAny_call_function hr.depth (KX _ _ lk) rfl S.co S.gen rfl (PySem.W.codeRec_of KX hcd) (hb _ _ _ _ (wpAny_newFunctionEnv_cells S.kind kinds ?_))
  intro env he s1 x
  cases he
  refine ⟨(e0.mod.nolimit.keeps old).keeps x.toInCall.keep, codeAny_func ?_⟩
  obtain ⟨t, ht, hq⟩ := hbody base cdv callerA [] s H vs Q E rfl (hr.deeper _) hsp
  have I := inv_start (CX := CX0) (E := E) S hr.hd e0 (len _ _ _ _ hsp) r x
  refine wpAny_mono (ht.nox.run [] s1 (start N vs) H _ I hq) ?_ fun _ _ z => z
  intro fl s' hs
  match fl, hs with
  | .ret u, ⟨v, _, H', J, rv, q⟩ => exact ⟨v, H', J.os, J.bare, J.base, J.hok, rv, q⟩
  | .next, ⟨_, H', J, q⟩ => exact ⟨V.non, H', J.os, J.bare, J.base, J.hok, rfl, q⟩
  | .brk, ⟨_, _, _, q⟩ => exact q.elim
  | .cont, ⟨_, _, _, q⟩ => exact q.elim
/-- the abstract heap at the law's entry: the script alone, locked, or nothing where it is one of the module's own -/
theorem entry_heap {P : Program} {w : World} {K : PySem.W.Frag} {s : Shared} {a : Addr} {vs : List Value} {ns : List Int} (KX : K.In s.heap) (ha : s.heap.get? a = some { cls := .type "list", data := .seq vs.toArray }) (hi : IntsAre vs ns) (hl : ns.length ≤ sizeLine) :
    ∃ H : Hp, Only H ∧ SqL K H a (ns.map V.int) ∧ HOk P w H s.heap ∧ (∀ b, H b ≠ none → b = a) ∧ (H a ≠ none → K.lookup a = none) := by
  have rv := vals_of_ints hi
  cases hk : K.lookup a with
  | some o =>
    have e := (KX a o hk).symm.trans ha
    cases e
    refine ⟨fun _ => none, fun _ => .inl rfl, .inr ⟨_, vs.toArray, _, hk, rfl, rfl, rfl, ?_, by simpa using rv⟩, fun b u z => (nomatch z), fun b z => absurd rfl z, fun z => absurd rfl z⟩
    rw [List.size_toArray, hi.length]
    exact hl
  | none =>
    let H : Hp := fun b => if b = a then some (.frz { cls := .type "list", data := .seq vs.toArray } (.lst (ns.map V.int))) else none
    have at_a : H a = some (.frz { cls := .type "list", data := .seq vs.toArray } (.lst (ns.map V.int))) := if_pos rfl
    have off : ∀ b, b ≠ a → H b = none := fun b hb => if_neg hb
    refine ⟨H, fun b => ?_, .inl (.inr ⟨_, at_a⟩), fun b u z => ?_, fun b z => ?_, fun _ => rfl⟩
    · by_cases hb : b = a
      · subst hb; exact .inr ⟨_, _, at_a⟩
      · exact .inl (off b hb)
    · by_cases hb : b = a
      · subst hb
        rw [at_a] at z
        cases z
        exact ⟨ha, by rw [List.length_map]; exact hl, vs, _, rv, ha⟩
      · rw [off b hb] at z
        cases z
    · by_cases hb : b = a
      · exact hb
      · exact absurd (off b hb) z
theorem top_call {P : Program} {w : World} {K : PySem.W.Frag} {mg mb : Str → Option Value} {k : Nat} {fa a : Addr} {fd : FuncData} {x : Str} {sp : Sp} {s : Shared} {vs : List Value} {ns : List Int}
    (KX : K.In s.heap) (hns : s.heap.Ns mainGlobals mg) (hb : s.heap.Ns builtinsNs mb) (hbb : ∀ x : Str, x ≠ "__name__" → mb x = bootBuiltins x) (hlim : s.heap.NoLimit) (hg : s.gens = #[])
    (ha : s.heap.get? a = some { cls := .type "list", data := .seq vs.toArray }) (hi : IntsAre vs ns) (hl : ns.length ≤ sizeLine) (hr : Room k callerA) (F : TopOk P w K mg k fa fd [x] sp) (hbind : ∀ (s : Shared) (u : Value), BindsTo s fd ⟨[u], []⟩ [(x, u)])
    (hsp : ∀ H : Hp, Only H → SqL K H a (ns.map V.int) → sp [.ref a] H (fun v _ => v = .bl true) fun _ _ _ => False) :
    codeAny (model P w) callerA (.call (.ref fa) ⟨[.ref a], []⟩) (fun r s' => r = .ok (.ret (.bool true)) ∧ OldK s.heap s'.heap ∧ s'.os = s.os ∧ AllBare s'.gens) s := by
  obtain ⟨H, hO, hS, hok, hA, hK⟩ := entry_heap (P := P) (w := w) KX ha hi hl
  have other : ∀ {b : Addr} {o : Obj}, s.heap.get? b = some o → (b = a → False) → (hidT s.heap H).get? b = some o := fun {b o} e n => hidT_get e (by
    cases q : H b with
    | none => rfl
    | some u => exact (n (hA b (by rw [q]; simp))).elim)
  have noD : ∀ {b : Addr} {m : Str → Option Value}, s.heap.Ns b m → (hidT s.heap H).Ns b m := fun {b m} ⟨o, es, ep, e, d, r⟩ => ⟨o, es, ep, other e (fun z => by
    rw [z, ha] at e; cases e; cases d), d, r⟩
  have inK : K.In (hidT s.heap H) := fun b o e => hidT_get (KX b o e) (by
    cases q : H b with
    | none => rfl
    | some u =>
      have z := hA b (by rw [q]; simp)
      subst z
      rw [hK (by rw [q]; simp)] at e
      cases e)
  have M : Mod K mg (hidT s.heap H) := ⟨inK, noD hns, ⟨mb, noD hb, hbb⟩, let ⟨mc, h1, h2⟩ := hlim; ⟨mc, noD h1, h2⟩⟩
  have none_in : ∀ b : Addr, b ∉ frs [] := fun b z => (nomatch (show b ∈ ([] : List Addr) from z))
  have e0 : Env0 P w K mg (hidT s.heap H) callerA [] s H := { frames := rfl, mod := M, bs := fun b o e => of_hidT e, bsz := Nat.le_of_eq (hidT_size _ _), funs := trivial, frf := fun b z => (none_in b z).elim, hok := hok, bare := .of_eq hg }
  refine codeAny_mono (F.run _ s H ⟨[.ref a], []⟩ [.ref a] [.ref a] _ _ hr e0 (hbind s (.ref a)) (.cons rfl .nil) (hsp H hO hS)) ?_
  intro r s' h
  match r, h with
  | .ok (.ret u), ⟨v, H', os, bare, un, hok', rv, q⟩ =>
    cases (show v = .bl true from q)
    cases (show u = Value.bool true from rv)
    refine ⟨rfl, OldK.of_keep fun b o e => ?_, os, bare⟩
    rcases hO b with z | ⟨ob, xs, z⟩
    · exact un.keep b o e z (none_in b) (by simp)
    · have e1 := (hok b _ z).1
      rw [e] at e1
      cases e1
      exact (hok' b _ (un.frzs b _ _ z)).1
theorem walk_top {l : PySem.W.OpenLaw} {n k : Nat} {q : Program} {loose : List Str} {XP : (Str → Option Value) → Heap → Prop} {YP : World → Heap → Prop} {d : DefRec} {K : Params → PySem.W.Frag} {sp : World → Sp} {x : Str}
    (hn : l.most = some n) (hn2 : n ≤ sizeLine) (hdf : d.params.defaults = []) (hr : Room k callerA)
    (hY : ∀ (w : World) (h : Heap), YP w h → (K w.params).In h)
    (F : ∀ (w : World) (mg : Str → Option Value) (fa : Addr) (h : Heap), (K w.params).In h → h.Ns mainGlobals mg → mg d.name = some (.ref fa) →
      ∃ fd : FuncData, (∀ (s : Shared) (u : Value), BindsTo s fd ⟨[u], []⟩ [(x, u)]) ∧ TopOk l.prog w (K w.params) mg k fa fd [x] (sp w))
    (hsp : ∀ (w : World) (H : Hp) (a : Addr) (ns : List Int), ns.length ≤ n → Only H → SqL (K w.params) H a (ns.map V.int) → sp w [.ref a] H (fun v _ => v = .bl true) fun _ _ _ => False) :
    PySem.W.WalkO q loose XP YP l.row.toRowW d [] (fun f vs => PySem.call f vs) := by
  refine Att.attach_call hn hdf ?_
  intro w s₀ s₁ mg mb fa o pm cd doc a vs ns G Y ho hd hcd hmg hobj hints hlen hg
  obtain ⟨fd, hbi, hF⟩ := F w mg fa _ (hY w _ Y) G.T.g hmg
  exact top_call (hY w _ Y) G.T.g G.T.b G.T.builtins G.T.nolimit hg hobj hints (Nat.le_trans hlen hn2) hr hF hbi fun H hO hS => hsp w H a ns hlen hO hS
end Fld
/-! repr of data: how long its text may be, and the rule of the call. -/
namespace Fld
open PySem PySem.Spec PyProof.Rows L2
mutual
def okD : PyData → Bool
  | .none => true
  | .bool _ => true
  | .int i => decide (i.natAbs < 2 ^ 1000)
  | .str x => x.cps.toList.all fun c => decide (c < 4294967296)
  | .list xs => okAll xs
  | .tuple xs => okAll xs
  | .dict _ => false
def okAll : List PyData → Bool
  | [] => true
  | x :: xs => okD x && okAll xs
end
mutual
/-- no less than the length of its text -/
def wD : PyData → Nat
  | .none => 4
  | .bool _ => 5
  | .int _ => 1010
  | .str x => 10 * x.length + 2
  | .list xs => wAll xs + 4
  | .tuple xs => wAll xs + 4
  | .dict _ => 0
def wAll : List PyData → Nat
  | [] => 0
  | x :: xs => wD x + 2 + wAll xs
end
theorem textFrom_le : ∀ (ts : List Str) (k : Nat) (acc : Str), (textFrom k acc ts).length ≤ acc.length + piled ts
  | [], k, acc => by show acc.length ≤ _; omega
  | t :: r, k, acc => by
    have ih := textFrom_le r (k + 1) (acc ++ (if k > 0 then ", " else "" : String) ++ t)
    have e : (acc ++ (if k > 0 then ", " else "" : String) ++ t).length ≤ acc.length + 2 + t.length := by
      rw [strLen_append, strLen_append]
      split
      · exact Nat.le_refl _
      · show acc.length + 0 + t.length ≤ _; omega
    have e2 : piled (t :: r) = t.length + 2 + piled r := by unfold piled; rw [List.map_cons, List.sum_cons]
    show (textFrom (k + 1) _ r).length ≤ _
    omega
theorem listText_le (ts : List Str) : (listText ts).length ≤ piled ts + 4 := by
  unfold listText
  rw [strLen_append]
  have h := textFrom_le ts 0 "["
  have e1 : ((("[" : String) : Str)).length = 1 := rfl
  have e2 : ((("]" : String) : Str)).length = 1 := rfl
  omega
theorem tupleText_le (ts : List Str) : (tupleText ts).length ≤ piled ts + 4 := by
  unfold tupleText
  rw [strLen_append, strLen_append]
  have e1 : ((("(" : String) : Str)).length = 1 := rfl
  have e3 : (((if ts.length == 1 then ",)" else ")" : String) : Str)).length ≤ 2 := by split <;> decide
  by_cases h : ts = []
  · subst h
    have e0 : (Str.join ", " []).length = 0 := rfl
    omega
  · have := join_length_add ts h
    omega
theorem toString_le {i : Int} (h : i.natAbs < 2 ^ 1000) : (Str.ofString (toString i)).length ≤ 1010 := by
  have h1 : (Nat.repr i.natAbs).length ≤ 1000 := nat_repr_length_le (by decide) h
  have e : ∀ z : String, (Str.ofString z).length = z.length := fun z => by
    rw [TL.len_tl, TL.tl_ofString, List.length_map]
    rfl
  rw [e]
  cases i with
  | ofNat n =>
    have : (toString (Int.ofNat n)) = Nat.repr n := rfl
    rw [this]
    have h2 : (Nat.repr n).length ≤ 1000 := h1
    omega
  | negSucc n =>
    have : (toString (Int.negSucc n)) = "-" ++ Nat.repr (n + 1) := rfl
    rw [this, String.length_append]
    have h2 : (Nat.repr (n + 1)).length ≤ 1000 := h1
    have h3 : ("-" : String).length = 1 := rfl
    omega
theorem log_le {n : Nat} (h : n < 2 ^ 1000) : n.log2 < 1920 := by
  by_cases e : n = 0
  · subst e; decide
  · exact Nat.lt_trans ((Nat.log2_lt e).mpr h) (by decide)
mutual
theorem shown_le : ∀ d : PyData, okD d = true → d.shown.length ≤ wD d ∧ d.showable = true ∧ d.hasDict = false
  | .none, _ => ⟨by decide, rfl, rfl⟩
  | .bool b, _ => ⟨by cases b <;> decide, rfl, rfl⟩
  | .int i, h => by
    have h' : i.natAbs < 2 ^ 1000 := of_decide_eq_true (show decide _ = true from h)
    exact ⟨toString_le h', decide_eq_true (log_le h'), rfl⟩
  | .str x, h => by
    refine ⟨StrLaws.reprText_len x fun c hc => ?_, rfl, rfl⟩
    have h' : (x.cps.toList.all fun c => decide (c < 4294967296)) = true := h
    have := of_decide_eq_true (List.all_eq_true.mp h' c hc)
    have e : (16 : Nat) ^ 8 = 4294967296 := by decide
    omega
  | .list xs, h => by
    have ih := shownAll_le xs h
    refine ⟨?_, by rw [PyData.showable]; exact ih.2.1, by rw [PyData.hasDict]; exact ih.2.2⟩
    rw [PyData.shown, wD]
    have := listText_le (PyData.shownAll xs)
    omega
  | .tuple xs, h => by
    have ih := shownAll_le xs h
    refine ⟨?_, by rw [PyData.showable]; exact ih.2.1, by rw [PyData.hasDict]; exact ih.2.2⟩
    rw [PyData.shown, wD]
    have := tupleText_le (PyData.shownAll xs)
    omega
  | .dict _, h => by cases h
theorem shownAll_le : ∀ ds : List PyData, okAll ds = true → piled (PyData.shownAll ds) ≤ wAll ds ∧ PyData.showableAll ds = true ∧ PyData.hasDictAll ds = false
  | [], _ => ⟨by rw [PyData.shownAll]; exact Nat.le_refl _, rfl, rfl⟩
  | d :: ds, h => by
    have h' : (okD d && okAll ds) = true := by rw [okAll] at h; exact h
    rw [Bool.and_eq_true] at h'
    have i1 := shown_le d h'.1
    have i2 := shownAll_le ds h'.2
    refine ⟨?_, by rw [PyData.showableAll, i1.2.1, i2.2.1]; rfl, by rw [PyData.hasDictAll, i1.2.2, i2.2.2]; rfl⟩
    rw [PyData.shownAll, wAll]
    have e2 : piled (d.shown :: PyData.shownAll ds) = d.shown.length + 2 + piled (PyData.shownAll ds) := by unfold piled; rw [List.map_cons, List.sum_cons]
    omega
end
mutual
theorem dle_depth : ∀ (d : PyData) (n : Nat), DLe n d → d.depth ≤ n
  | .none, _, _ => by rw [PyData.depth]; omega
  | .bool _, _, _ => by rw [PyData.depth]; omega
  | .int _, _, _ => by rw [PyData.depth]; omega
  | .str _, _, _ => by rw [PyData.depth]; omega
  | .list xs, 0, h => (by simp [DLe] at h)
  | .list xs, n + 1, h => by
    have h' : xs.length ≤ 100000 ∧ ∀ d ∈ xs, DLe n d := by simpa [DLe] using h
    rw [PyData.depth]
    have := dle_depthAll xs n h'.2
    omega
  | .tuple xs, 0, h => (by simp [DLe] at h)
  | .tuple xs, n + 1, h => by
    have h' : xs.length ≤ 100000 ∧ ∀ d ∈ xs, DLe n d := by simpa [DLe] using h
    rw [PyData.depth]
    have := dle_depthAll xs n h'.2
    omega
  | .dict _, n, h => by cases n <;> simp [DLe] at h
theorem dle_depthAll : ∀ (ds : List PyData) (n : Nat), (∀ d ∈ ds, DLe n d) → PyData.depthAll ds ≤ n
  | [], _, _ => by rw [PyData.depthAll]; omega
  | d :: ds, n, h => by
    rw [PyData.depthAll]
    have h1 := dle_depth d n (h d (List.mem_cons_self ..))
    have h2 := dle_depthAll ds n fun e he => h e (List.mem_cons_of_mem _ he)
    omega
end
def rRepr (K : PySem.W.Frag) : List V → Hp → VK → Prop := fun xs H Q => ∃ (x : V) (d : PyData) (n : Nat), xs = [x] ∧ Dp K H x d ∧ okD d = true ∧ DLe n d ∧ n ≤ 40 ∧ wD d ≤ 10000000 ∧ Q (.str d.shown) H
theorem call_repr {X : Cx} (hg : X.A.guards = some []) (hu : X.A.units + 64 < cLine) : CallR X (.builtin "repr") (rRepr X.K) := by
  intro pins s σ H xs us Q I r h
  obtain ⟨x, d, n, rfl, hd, ok, hn, hn2, hw, q⟩ := h
  obtain ⟨u, rfl, ru⟩ := vals1 r
  obtain ⟨hl, hs, hnd⟩ := shown_le d ok
  have hsz : d.shown.length ≤ sizeLine := by rw [sizeLine_eq]; omega
  obtain ⟨as, rd⟩ := Dp.reads I d x u hd ru
  have hdep := dle_depth d n hn
  cases hd with
  | non =>
    cases ru
    exact P.repr_of_none ⟨.str _, H, I.tok _, ⟨_, rfl⟩, q⟩
  | bl b =>
    cases ru
    exact P.repr_of_bool ⟨.str _, H, I.tok _, ⟨_, rfl⟩, q⟩
  | int i =>
    obtain ⟨t, rfl⟩ := ru
    have h' : i.natAbs < 2 ^ 1000 := of_decide_eq_true (show decide _ = true from ok)
    exact P.repr_of_int (log_le h') ⟨.str _, H, I.tok _, ⟨_, rfl⟩, q⟩
  | str y =>
    obtain ⟨t, rfl⟩ := ru
    exact P.repr_of_str ⟨.str _, H, I.tok _, ⟨_, rfl⟩, q⟩ hsz
  | lst _ _ =>
    cases ru
    exact repr_of_reads' rd hs (PyData.noDict_hsm hnd) hg (by omega) (fun _ _ e => e) (fun h' tu tk hk => ⟨.str _, H, I.kept hk, ⟨_, rfl⟩, q⟩) hsz
  | tup _ _ =>
    cases ru
    exact repr_of_reads' rd hs (PyData.noDict_hsm hnd) hg (by omega) (fun _ _ e => e) (fun h' tu tk hk => ⟨.str _, H, I.kept hk, ⟨_, rfl⟩, q⟩) hsz
end Fld
/-! Errors of the program: a base of its own over ValueError, whose __init__ is called by name out of the __init__ of its heirs. -/
namespace Fld
open PySem PySem.Spec PyProof.Rows L2
section
variable {X : Cx} {e : Expr} {es : List Expr} {ta : TA} {x : Str} {FE : Addr} {mc : Value} {p1 p2 pos : Pos}
/-- what the written part says of the base -/
structure BaseC (K : PySem.W.Frag) (mg : Str → Option Value) (x : Str) (FE : Addr) (mc : Value) : Prop where
  g : mg x = some (.ref FE)
  rd : ClX.CRead K FE mc
  ini : PySem.W.findCls K (.ref FE) mc "__init__" = some (.val (.builtin "ValueError.__init__"))
theorem pe_feinit {pl : Sem Bool} (B : BaseC X.K X.mg x FE mc) (hg : Gl X x) (ha : PA X (e :: es) ta) (hdb : (x == ("__debug__" : Str)) = false := by decide)
    (hc : eval (.Call (.Attribute (.Name x p1) "__init__" p2) (e :: es) [] pos) X.env = (do
      let ov ← eval (.Name x p1) X.env
      standAt p2.atName
      let (f, first) ← holding [ov] (getMethod ov "__init__" pl)
      callWith pos f first (backTo pos (starEach (e :: es) X.env)) (backToKw pos (keywordEach [] X.env))) := by rfl)
    (he : starEach (e :: es) X.env = (false, eval e X.env) :: starEach es X.env := by rfl) (hpl : (backTo pos (starEach es X.env)).any (·.1) = false := by rfl) :
    PE X (.Call (.Attribute (.Name x p1) "__init__" p2) (e :: es) [] pos) (tVeI X.K ta) := by
  refine ⟨?_⟩
  intro pins s σ H Q I h
  refine PySem.W.methodCall_KW (ld_glob I hg B.g ?_ hdb) hc
  refine PySem.W.method_cls I.kIn B.rd.ga (PySem.W.cls_value I.kIn B.rd.rd B.ini rfl ?_)
  show wpAny _ _ (callWith pos (Value.builtin "ValueError.__init__") [] (backTo pos (starEach (e :: es) X.env)) []) _ _ _
  refine PyProof.Rows.callWith_method1 (thn (ha.run pos pins _ σ H _ (I.tok _) h) ?_) he hpl
  rintro us s1 ⟨vs, H1, I1, r1, a, C, ws, rfl, hl, TC, ea, q⟩
  cases r1 with
  | cons ra rw' =>
    cases (show _ = Value.ref a from ra)
    exact oinit_ok TC I1 ea (by rw [← Paired.length rw', sizeLine_eq]; omega) fun s' J => ⟨.non, H1, J, rfl, q⟩
end
/-- __init__ of an heir: its one argument is kept as the attribute f -/
def sp_err (C : Addr) (f : Str) : Sp := fun vs H Q _ => ∃ (a : Addr) (k : Int), vs = [.ref a, .int k] ∧ k.natAbs < 2 ^ 1000 ∧ H a = some (exo a C none) ∧
  ∀ dx, H dx = none → dx ≠ a → Q .non (upd (upd H dx (exd dx [(f, .int k)])) a (exo a C (some dx)))
/-- what the written part says of an heir at C, its __init__ at fI -/
structure ErrC (K : PySem.W.Frag) (mg : Str → Option Value) (x f : Str) (C fI : Addr) : Prop where
  ox : OexC K C
  g : mg x = some (.ref C)
  iC : PySem.W.findIn K (.ref C) "__init__" = some (some (.ref fI))
  tI : PySem.W.typeIn K (.ref fI) = some (.type "function")
  no : PySem.W.findIn K (.ref C) f = some none
/-- raise C(e): what its reading asks behind the argument -/
def tRaiseE (C : Addr) (f : Str) (W : WX) (ta : TA) : TS := fun _ σ H => tMkO C (sp_err C f) [] ta σ H fun cls d H' => W cls d σ H'
theorem ps_raiseE {X : Cx} {CX : CXT} {x f : Str} {C fI : Addr} {k : Nat} {fd : FuncData} {e : Expr} {ta : TA} {W : WX} {p pos pos2 : Pos} (hcalm : X.calm = true) (T : ErrC X.K X.mg x f C fI) (F1 : FnOk X.prog X.w X.K X.mg X.base CX k fI fd ["self", f] (sp_err C f)) (hr : Room (k + 1) X.A) (hb : Binds X.K fd ["self", f] [])
    (hx : Passes CX X (fun _ _ _ => False)) (tk : Takes X W) (hg : Gl X x) (ha : PA X [e] ta)
    (hdb : (x == ("__debug__" : Str)) = false := by decide) (he : starEach (e :: []) X.env = (false, eval e X.env) :: starEach [] X.env := by rfl) (hpl : (backTo pos (starEach [] X.env)).any (·.1) = false := by rfl) :
    PS X (.Raise (some (.Call (.Name x p) [e] [] pos)) none pos2) (tRaiseE C f W ta) :=
  ps_raise (pos := pos2) hcalm tk (pmk_oex (pos := pos) (p := p) T.ox T.iC T.tI F1 hr hb .nil hx hg T.g ha hdb he hpl)
/-- the error's own dict, new, holds the number; all that stood stands -/
theorem err_go {C : Addr} {f : Str} {k : Int} {H1 : Hp} {Q : Value → Option Addr → Hp → Prop} (hk : k.natAbs < 2 ^ 1000) (q : ∀ (d : Addr) H', Same H1 H' → H1 d = none → H' d = some (.xd [(f, .int k)]) → Q (.ref C) (some d) H') :
    ([V.int k] : List V).length ≤ 1000 ∧ ∀ a, H1 a = none → sp_err C f (.ref a :: ([.int k] ++ [])) (upd H1 a (exo a C none)) (fun v H2 => v = .non ∧ ∃ (d : Addr) (fs : List (Str × V)), H2 a = some (exo a C (some d)) ∧ H2 d = some (exd d fs) ∧ H1 d = none ∧ Q (.ref C) (some d) (upd (del H2 a) d (.xd fs))) (fun _ _ _ => False) := by
  refine ⟨by show 1 ≤ 1000; decide, fun a hna => ⟨a, k, rfl, hk, upd_same, fun dx hdx hda => ⟨rfl, dx, [(f, .int k)], upd_same, ?_, ?_, ?_⟩⟩⟩
  · rw [upd_ne hda, upd_same]
  · rw [upd_ne hda] at hdx; exact hdx
  · have hdx' : H1 dx = none := by rw [upd_ne hda] at hdx; exact hdx
    refine q dx _ (fun b o hb => ?_) hdx' upd_same
    have n1 : b ≠ dx := ne_of_none hb hdx'
    have n2 : b ≠ a := ne_of_none hb hna
    rw [upd_ne n1, del_ne n2, upd_ne n2, upd_ne n1, upd_ne n2]
    exact hb
/-- a plain heir: no __init__ of its own -/
structure PlainC (K : PySem.W.Frag) (mg : Str → Option Value) (x : Str) (C : Addr) (bm : List Value) : Prop where
  g : mg x = some (.ref C)
  x_ : PySem.W.excIn K C bm "ValueError.__new__" = true
  k_ : PySem.W.keepIn K (.ref C) = true
  b_ : PySem.W.subIn K (.ref C) (.type "BaseException") = some true
  t_ : PySem.W.typeIn K (.ref C) = some (.type "type")
/-- what an except clause asks of a base of the program's own -/
structure RootC (K : PySem.W.Frag) (C : Addr) : Prop where
  b_ : PySem.W.subIn K (.ref C) (.type "BaseException") = some true
  t_ : PySem.W.typeIn K (.ref C) = some (.type "type")
  d_ : PySem.W.hasDictIn K C = true
structure HeirC (K : PySem.W.Frag) (C FE : Addr) : Prop where
  b_ : PySem.W.subIn K (.ref C) (.type "BaseException") = some true
  t_ : PySem.W.typeIn K (.ref C) = some (.type "type")
  u_ : PySem.W.subIn K (.ref C) (.ref FE) = some true
theorem RootC.exm {K : PySem.W.Frag} {C FE : Addr} (r : RootC K FE) (h : HeirC K C FE) : PySem.W.exmOne K (.ref C) (.ref FE) = some true := PySem.W.exm_ref r.b_ r.d_ r.t_ h.u_
/-- text += text on a local -/
def ipT : TIp := fun x y H Q => ∃ i j, x = .str i ∧ y = .str j ∧ i.length + j.length ≤ sizeLine ∧ Q (.str (i ++ j)) H
theorem ip_addT {X : Cx} : PIp X .Add ipT := fun pins s σ H x y u v Q I rx ry h => iop_add_str pins s σ H x y u v Q I rx ry h
end Fld
/-! The reader of octets: its state, what its calls return or raise, by a mirror over the list of octets. -/
namespace Fld
open PySem PySem.Spec PyProof.Rows L2
/-- the reader at r, over the octets os at a, stands at place k -/
structure Rd (K : PySem.W.Frag) (C : Addr) (H : Hp) (r a : Addr) (os : List Int) (k : Nat) : Prop where
  ex : ∃ dx, H r = some (.ins C dx [("octets", .ref a), ("place", .int (k : Nat))])
  sq : SqL K H a (os.map V.int)
  ne : a ≠ r
  lt : ∀ o ∈ os, 0 ≤ o ∧ o < 256
  len : os.length ≤ 1000000
  le : k ≤ os.length
theorem Rd.keep {K : PySem.W.Frag} {C r a : Addr} {H H' : Hp} {os : List Int} {k : Nat} (h : Rd K C H r a os k) (s : Same H H') : Rd K C H' r a os k := by
  obtain ⟨dx, e⟩ := h.ex
  exact ⟨⟨dx, s _ _ e⟩, s.seq h.sq, h.ne, h.lt, h.len, h.le⟩
theorem Rd.get {K : PySem.W.Frag} {C r a : Addr} {H : Hp} {os : List Int} {k : Nat} (h : Rd K C H r a os k) {o : Int} (e : os[k]? = some o) : 0 ≤ o ∧ o < 256 := h.lt o (List.mem_of_getElem? e)
theorem Rd.end_ {K : PySem.W.Frag} {C r a : Addr} {H : Hp} {os : List Int} {k : Nat} (h : Rd K C H r a os k) (e : os[k]? = none) : k = os.length := by
  have := List.getElem?_eq_none_iff.mp e
  have := h.le
  omega
/-- an error with the place e -/
def RdErr (N r : Addr) (H : Hp) (E : XK) (e : Nat) : Prop := ∀ (d : Addr) H', But r H H' → H' d = some (.xd [("place", .int (e : Nat))]) → E (.ref N) (some d) H'
theorem RdErr.pre {N r : Addr} {H H1 : Hp} {E : XK} {e : Nat} (b : But r H H1) (h : RdErr N r H E e) : RdErr N r H1 E e := fun d H' b2 hd => h d H' (b.trans b2) hd
/-- a call: a value, the place moved; or the error -/
def RdRes {α : Type} (K : PySem.W.Frag) (C N r a : Addr) (os : List Int) (H : Hp) (Q : VK) (E : XK) (R : α → V → Hp → Prop) : Except Nat (α × Nat) → Prop
  | .ok (x, k') => ∀ v H', But r H H' → Rd K C H' r a os k' → R x v H' → Q v H'
  | .error e => RdErr N r H E e
theorem lenL {K : PySem.W.Frag} {H : Hp} {a : Addr} {xs : List V} (h : SqL K H a xs) : LenV K (.ref a) H xs.length := .inl ⟨xs, h, rfl⟩
theorem small_int {K : PySem.W.Frag} {C r a : Addr} {H : Hp} {os : List Int} {k : Nat} (h : Rd K C H r a os k) : ((k : Nat) : Int).natAbs < 2 ^ 1000 := by
  have h1 := h.le
  have h2 := h.len
  have h3 : (1000001 : Nat) < 2 ^ 1000 := by decide +kernel
  rw [Int.natAbs_natCast]
  omega
/-! ### mirrors -/
def takeRest (most : Int) : List Int → Nat → Int → Int → Except Nat (Int × Nat)
  | [], k, _, _ => .error k
  | o :: l, k, r, w =>
    if 128 ≤ o then (if r + (o - 128) * w + w * 128 ≤ most then takeRest most l (k + 1) (r + (o - 128) * w) (w * 128) else .error k)
    else if r + o * w ≤ most ∧ (0 < o ∨ w = 1) then .ok (r + o * w, k + 1) else .error k
def takeNum (os : List Int) (b m : Nat) (least most : Int) (k : Nat) : Except Nat (Int × Nat) :=
  match os[k]? with
  | none => .error k
  | some o => if least ≤ o - m ∧ o - m ≤ min ((2 ^ b - 1 : Nat) : Int) most then
      (if o - m < ((2 ^ b - 1 : Nat) : Int) then .ok (o - m, k + 1)
       else (takeRest (most - ((2 ^ b - 1 : Nat) : Int)) (os.drop (k + 1)) (k + 1) 0 1).map fun z => (((2 ^ b - 1 : Nat) : Int) + z.1, z.2))
    else .error k
def takeChars : Nat → List Int → Nat → Except Nat (List Nat × Nat)
  | 0, _, k => .ok ([], k)
  | _ + 1, [], k => .error k
  | n + 1, o :: l, k => if isChar o.toNat then (takeChars n l (k + 1)).map fun z => (o.toNat :: z.1, z.2) else .error k
def takeStr (os : List Int) (b m : Nat) (least most : Int) (k : Nat) : Except Nat (Str × Nat) :=
  match takeNum os b m least most k with
  | .error e => .error e
  | .ok (n, k1) => (takeChars n.toNat (os.drop k1) k1).map fun z => (⟨z.1.toArray⟩, z.2)
theorem takeRest_bound (most : Int) : ∀ (l : List Int) (k : Nat) (r w : Int) (n : Int) (k1 : Nat), 0 ≤ r → 0 ≤ w → (∀ o ∈ l, 0 ≤ o) → takeRest most l k r w = .ok (n, k1) → 0 ≤ n ∧ n ≤ most
  | [], k, r, w, n, k1, _, _, _, h => by rw [takeRest] at h; cases h
  | o :: l, k, r, w, n, k1, hr, hw, ho, h => by
    have ho1 := ho o (List.mem_cons_self ..)
    have hm := Int.mul_nonneg ho1 hw
    rw [takeRest] at h
    by_cases h1 : 128 ≤ o
    · rw [if_pos h1] at h
      by_cases h2 : r + (o - 128) * w + w * 128 ≤ most
      · rw [if_pos h2] at h
        have := Int.mul_nonneg (show 0 ≤ o - 128 by omega) hw
        exact takeRest_bound most l _ _ _ n k1 (by omega) (by omega) (fun x hx => ho x (List.mem_cons_of_mem _ hx)) h
      · rw [if_neg h2] at h; cases h
    · rw [if_neg h1] at h
      by_cases h2 : r + o * w ≤ most ∧ (0 < o ∨ w = 1)
      · rw [if_pos h2] at h
        cases h
        exact ⟨by omega, h2.1⟩
      · rw [if_neg h2] at h; cases h
theorem takeNum_bound (os : List Int) (b m : Nat) (least most : Int) (k : Nat) (hos : ∀ o ∈ os, 0 ≤ o) : ∀ n k1, takeNum os b m least most k = .ok (n, k1) → least ≤ n ∧ n ≤ most := by
  intro n k1 h
  rw [takeNum] at h
  cases ho : os[k]? with
  | none => rw [ho] at h; cases h
  | some o =>
    rw [ho] at h
    dsimp only at h
    have hp0 := pow_pos2 b
    by_cases h1 : least ≤ o - (m : Int) ∧ o - (m : Int) ≤ min ((2 ^ b - 1 : Nat) : Int) most
    · rw [if_pos h1] at h
      by_cases h2 : o - (m : Int) < ((2 ^ b - 1 : Nat) : Int)
      · rw [if_pos h2] at h
        cases h
        omega
      · rw [if_neg h2] at h
        cases ht : takeRest (most - ((2 ^ b - 1 : Nat) : Int)) (os.drop (k + 1)) (k + 1) 0 1 with
        | error z => rw [ht] at h; cases h
        | ok z =>
          rw [ht] at h
          cases h
          have := takeRest_bound _ _ _ _ _ z.1 z.2 (by decide) (by decide) (fun x hx => hos x (List.mem_of_mem_drop hx)) ht
          omega
    · rw [if_neg h1] at h; cases h
def rInt : Int → V → Hp → Prop := fun z v _ => v = .int z
def rStr : Str → V → Hp → Prop := fun x v _ => v = .str x
/-! ### what is promised -/
def sp_Reader_init (K : PySem.W.Frag) : Sp := fun vs H Q _ => ∃ (r a C dx : Addr), vs = [.ref r, .ref a] ∧ H r = some (.ins C dx []) ∧ Cls K C ∧ NoAttr K C "octets" ∧ NoAttr K C "place" ∧
  ∀ H', (∀ b, b ≠ r → H' b = H b) → H' r = some (.ins C dx [("octets", .ref a), ("place", .int 0)]) → Q .non H'
def sp_Reader_at_end (K : PySem.W.Frag) (C : Addr) : Sp := fun vs H Q _ => ∃ (r a : Addr) (os : List Int) (k : Nat), vs = [.ref r] ∧ Rd K C H r a os k ∧ Q (.bl (decide (k = os.length))) H
def sp_Reader_look (K : PySem.W.Frag) (C N : Addr) : Sp := fun vs H Q E => ∃ (r a : Addr) (os : List Int) (k : Nat), vs = [.ref r] ∧ Rd K C H r a os k ∧ (os[k]? = none → RdErr N r H E k) ∧ ∀ o, os[k]? = some o → Q (.int o) H
def sp_Reader_accept (K : PySem.W.Frag) (C N : Addr) : Sp := fun vs H Q E => ∃ (r a : Addr) (os : List Int) (k : Nat) (b : Bool), vs = [.ref r, .bl b] ∧ Rd K C H r a os k ∧ k < os.length ∧ (b = false → RdErr N r H E k) ∧
  (b = true → ∀ H', But r H H' → Rd K C H' r a os (k + 1) → Q .non H')
theorem acc_of {K : PySem.W.Frag} {C N r a : Addr} {os : List Int} {k : Nat} {H : Hp} {Q' : VK} {E : XK} {bb : Bool} {p : Prop} [Decidable p] (R : Rd K C H r a os k) (hlt : k < os.length) (hb : bb = decide p) (h1 : ¬ p → RdErr N r H E k)
    (h2 : p → ∀ H1, But r H H1 → Rd K C H1 r a os (k + 1) → Q' .non H1) : sp_Reader_accept K C N [.ref r, .bl bb] H Q' E :=
  ⟨r, a, os, k, bb, rfl, R, hlt, fun e => h1 (of_decide_eq_false (hb.symm.trans e)), fun e => h2 (of_decide_eq_true (hb.symm.trans e))⟩
theorem RdRes.pre {α : Type} {K : PySem.W.Frag} {C N r a : Addr} {os : List Int} {H H1 : Hp} {Q : VK} {E : XK} {R : α → V → Hp → Prop} {x : Except Nat (α × Nat)} (b : But r H H1) (h : RdRes K C N r a os H Q E R x) : RdRes K C N r a os H1 Q E R x := by
  cases x with
  | error e => exact RdErr.pre b h
  | ok z => exact fun v H' b2 R2 hv => h v H' (b.trans b2) R2 hv
def sp_Reader_finish (K : PySem.W.Frag) (C N : Addr) : Sp := fun vs H Q E => ∃ (r a : Addr) (os : List Int) (k : Nat), vs = [.ref r] ∧ Rd K C H r a os k ∧ (k ≠ os.length → RdErr N r H E k) ∧ (k = os.length → Q .non H)
def sp_Reader_take_rest (K : PySem.W.Frag) (C N : Addr) : Sp := fun vs H Q E => ∃ (r a : Addr) (os : List Int) (k : Nat) (most : Int), vs = [.ref r, .int most] ∧ Rd K C H r a os k ∧ most ≤ 1000000 ∧ RdRes K C N r a os H Q E rInt (takeRest most (os.drop k) k 0 1)
def sp_Reader_take_number (K : PySem.W.Frag) (C N : Addr) : Sp := fun vs H Q E => ∃ (r a : Addr) (os : List Int) (k b m : Nat) (least most : Int), vs = [.ref r, .int (b : Nat), .int (m : Nat), .int least, .int most] ∧ Rd K C H r a os k ∧ b ≤ 8 ∧ most ≤ 1000000 ∧
  RdRes K C N r a os H Q E rInt (takeNum os b m least most k)
def sp_Reader_take_string (K : PySem.W.Frag) (C N : Addr) : Sp := fun vs H Q E => ∃ (r a : Addr) (os : List Int) (k b m : Nat) (least most : Int), vs = [.ref r, .int (b : Nat), .int (m : Nat), .int least, .int most] ∧ Rd K C H r a os k ∧ b ≤ 8 ∧ 0 ≤ least ∧ most ≤ 10000 ∧
  RdRes K C N r a os H Q E rStr (takeStr os b m least most k)
def sp_Reader_take_name (K : PySem.W.Frag) (C N : Addr) : Sp := fun vs H Q E => ∃ (r a : Addr) (os : List Int) (k b m : Nat), vs = [.ref r, .int (b : Nat), .int (m : Nat)] ∧ Rd K C H r a os k ∧ b ≤ 8 ∧ RdRes K C N r a os H Q E rStr (takeStr os b m 1 20 k)
def sp_Reader_take_value (K : PySem.W.Frag) (C N : Addr) : Sp := fun vs H Q E => ∃ (r a : Addr) (os : List Int) (k : Nat), vs = [.ref r] ∧ Rd K C H r a os k ∧ RdRes K C N r a os H Q E rStr (takeStr os 7 0 0 40 k)
end Fld
/-! Instructions and answers: their values, their octets, what is read of octets. -/
namespace Fld
open PySem PySem.Spec PyProof.Rows L2
def sp_is_stream (K : PySem.W.Frag) : Sp := fun vs H Q _ => ∃ (v : V) (t : String), vs = [v] ∧ Kind K H v t ∧ Q (.bl (btw v 0 20)) H
def sp_is_name (K : PySem.W.Frag) : Sp := fun vs H Q _ => ∃ (v : V) (t : String), vs = [v] ∧ Kind K H v t ∧ (∀ x, v = .str x → x.length ≤ 100000) ∧ ∀ H', Same H H' → Q (.bl (txt v 1 20)) H'
/-- a list of any values of a kind, or a value of another kind: what comes for each -/
def AnyL (K : PySem.W.Frag) (H : Hp) (v : V) (Y : List V → Prop) (N : Prop) : Prop :=
  (∃ a xs, v = .ref a ∧ SqL K H a xs ∧ xs.length ≤ 1000000 ∧ (∀ x ∈ xs, ∃ t, Kind K H x t) ∧ Y xs) ∨ ∃ t, Kind K H v t ∧ (t == "list") = false ∧ N
/-- .. the list one of the heap -/
def AnyH (K : PySem.W.Frag) (H : Hp) (v : V) (Y : List V → Prop) (N : Prop) : Prop :=
  (∃ a xs, v = .ref a ∧ H a = some (.lst xs) ∧ xs.length ≤ 1000000 ∧ (∀ x ∈ xs, ∃ t, Kind K H x t) ∧ Y xs) ∨ ∃ t, Kind K H v t ∧ (t == "list") = false ∧ N
def octV (xs : List V) : Bool := xs.all fun x => btw x 0 255
def sp_are_octets (K : PySem.W.Frag) : Sp := fun vs H Q _ => ∃ v, vs = [v] ∧ AnyL K H v (fun xs => ∀ H', Same H H' → Q (.bl (octV xs)) H') (∀ H', Same H H' → Q (.bl false) H')
def sp_check_octets (K : PySem.W.Frag) (N : Addr) : Sp := fun vs H Q E => ∃ v, vs = [v] ∧ AnyL K H v (fun xs => ∀ H', Same H H' → if octV xs = true then Q .non H' else E (.ref N) none H') (∀ H', Same H H' → E (.ref N) none H')
def strOct (x : Str) (b m : Nat) : List Int := numOct x.length b m ++ x.cps.toList.map fun (c : Nat) => (c : Int)
def sp_value_octets : Sp := fun vs H Q _ => ∃ (x : Str), vs = [.str x] ∧ txt (.str x) 0 40 = true ∧ RetInts (strOct x 7 0) H Q
inductive Ins where
  | again (n : Nat) | limit (n : Nat) | fixed (n : Nat) (x : Str) | entry (n : Nat) (x : Str) | new (y x : Str)
def Ins.vs : Ins → List V
  | .again n => [.str "again", .int n]
  | .limit n => [.str "limit", .int n]
  | .fixed n x => [.str "fixed", .int n, .str x]
  | .entry n x => [.str "entry", .int n, .str x]
  | .new y x => [.str "new", .str y, .str x]
def Ins.Ok : Ins → Prop
  | .again n => n ≤ 9999
  | .limit n => n ≤ 9999
  | .fixed n x => n ≤ 9999 ∧ txt (.str x) 0 40 = true
  | .entry n x => n ≤ 9999 ∧ txt (.str x) 0 40 = true
  | .new y x => txt (.str y) 1 20 = true ∧ txt (.str x) 0 40 = true
def Ins.oct : Ins → List Int
  | .again n => numOct n 5 0
  | .limit n => numOct n 5 32
  | .fixed n x => numOct n 6 192 ++ strOct x 7 0
  | .entry n x => numOct n 6 128 ++ strOct x 7 0
  | .new y x => strOct y 5 64 ++ strOct x 7 0
/-- the value v is the instruction i -/
def InsV (K : PySem.W.Frag) (H : Hp) (v : V) (i : Ins) : Prop := ∃ a, v = .ref a ∧ SqT K H a i.vs
inductive Ans where
  | done (n : Nat) | cancelled (n : Nat) | received (n : Nat)
def Ans.vs : Ans → List V
  | .done n => [.str "done", .int n]
  | .cancelled n => [.str "cancelled", .int n]
  | .received n => [.str "received", .int n]
def Ans.Ok : Ans → Prop
  | .done n => n ≤ 20
  | .cancelled n => n ≤ 20
  | .received n => 1 ≤ n ∧ n ≤ 9999
def Ans.oct : Ans → List Int
  | .done n => numOct n 7 128
  | .cancelled n => numOct n 6 64
  | .received n => numOct n 6 0
def AnsV (K : PySem.W.Frag) (H : Hp) (v : V) (i : Ans) : Prop := ∃ a, v = .ref a ∧ SqT K H a i.vs
/-! ### reading -/
def takeSrc (os : List Int) (k : Nat) : Except Nat ((Str ⊕ Bool × Nat) × Nat) :=
  match os[k]? with
  | none => .error k
  | some o => if 192 ≤ o then (takeNum os 6 192 0 9999 k).map fun z => (.inr (true, z.1.toNat), z.2)
    else if 128 ≤ o then (takeNum os 6 128 0 9999 k).map fun z => (.inr (false, z.1.toNat), z.2)
    else (takeStr os 5 64 1 20 k).map fun z => (.inl z.1, z.2)
def srcIns (x : Str) : Str ⊕ Bool × Nat → Ins
  | .inl y => .new y x
  | .inr (true, n) => .fixed n x
  | .inr (false, n) => .entry n x
def takeIns (os : List Int) (k : Nat) : Except Nat (Ins × Nat) :=
  match os[k]? with
  | none => .error k
  | some o => if o < 32 then (takeNum os 5 0 0 9999 k).map fun z => (.again z.1.toNat, z.2)
    else if o < 64 then (takeNum os 5 32 0 9999 k).map fun z => (.limit z.1.toNat, z.2)
    else match takeSrc os k with
      | .error e => .error e
      | .ok (s, k1) => (takeStr os 7 0 0 40 k1).map fun z => (srcIns z.1 s, z.2)
def takeAns (os : List Int) (k : Nat) : Except Nat (Ans × Nat) :=
  match os[k]? with
  | none => .error k
  | some o => if 128 ≤ o then (takeNum os 7 128 0 20 k).map fun z => (.done z.1.toNat, z.2)
    else if 64 ≤ o then (takeNum os 6 64 0 20 k).map fun z => (.cancelled z.1.toNat, z.2)
    else (takeNum os 6 0 1 9999 k).map fun z => (.received z.1.toNat, z.2)
/-- read to the end -/
def whole {α : Type} (os : List Int) (f : List Int → Nat → Except Nat (α × Nat)) : Except Nat α :=
  match f os 0 with
  | .error e => .error e
  | .ok (x, k) => if k = os.length then .ok x else .error k
def srcVs : Str ⊕ Bool × Nat → List V
  | .inl y => [.str "new", .str y]
  | .inr (true, n) => [.str "fixed", .int n]
  | .inr (false, n) => [.str "entry", .int n]
def rSrc (K : PySem.W.Frag) : Str ⊕ Bool × Nat → V → Hp → Prop := fun s v H => ∃ a, v = .ref a ∧ SqT K H a (srcVs s)
def rIns (K : PySem.W.Frag) : Ins → V → Hp → Prop := fun i v H => InsV K H v i
def rAns (K : PySem.W.Frag) : Ans → V → Hp → Prop := fun i v H => AnsV K H v i
def sp_take (K : PySem.W.Frag) (C N : Addr) {α : Type} (f : List Int → Nat → Except Nat (α × Nat)) (R : α → V → Hp → Prop) : Sp := fun vs H Q E => ∃ (r a : Addr) (os : List Int) (k : Nat), vs = [.ref r] ∧ Rd K C H r a os k ∧ RdRes K C N r a os H Q E R (f os k)
def RdEnd {α : Type} (N : Addr) (H : Hp) (Q : VK) (E : XK) (R : α → V → Hp → Prop) : Except Nat α → Prop
  | .ok x => ∀ v H', Same H H' → R x v H' → Q v H'
  | .error e => ∀ (d : Addr) H', Same H H' → H' d = some (.xd [("place", .int (e : Nat))]) → E (.ref N) (some d) H'
def sp_read (K : PySem.W.Frag) (N M : Addr) {α : Type} (f : List Int → Nat → Except Nat (α × Nat)) (R : α → V → Hp → Prop) : Sp := fun vs H Q E => ∃ v, vs = [v] ∧ AnyH K H v
  (fun xs => if octV xs = true then ∃ os : List Int, xs = os.map V.int ∧ RdEnd N H Q E R (whole os f)
   else ∀ H', Same H H' → E (.ref M) none H') (∀ H', Same H H' → E (.ref M) none H')
def sp_is_ins (K : PySem.W.Frag) : Sp := fun vs H Q _ => ∃ (v : V) (i : Ins), vs = [v] ∧ InsV K H v i ∧ i.Ok ∧ ∀ H', Same H H' → Q (.bl true) H'
def sp_write_ins (K : PySem.W.Frag) : Sp := fun vs H Q _ => ∃ (v : V) (i : Ins), vs = [v] ∧ InsV K H v i ∧ i.Ok ∧ RetInts i.oct H Q
def sp_law_ins (K : PySem.W.Frag) : Sp := sp_write_ins K
def sp_is_ans (K : PySem.W.Frag) : Sp := fun vs H Q _ => ∃ (v : V) (i : Ans), vs = [v] ∧ AnsV K H v i ∧ i.Ok ∧ ∀ H', Same H H' → Q (.bl true) H'
def sp_write_ans (K : PySem.W.Frag) : Sp := fun vs H Q _ => ∃ (v : V) (i : Ans), vs = [v] ∧ AnsV K H v i ∧ i.Ok ∧ RetInts i.oct H Q
theorem txt_len20 {x : Str} (h : txt (.str x) 1 20 = true) : 1 ≤ x.length ∧ x.length ≤ 20 := by
  have h' : (decide ((1 : Int) ≤ x.length) && decide ((x.length : Int) ≤ 20) && x.cps.toList.all isChar) = true := h
  rw [Bool.and_eq_true, Bool.and_eq_true] at h'
  have h1 := of_decide_eq_true h'.1.1
  have h2 := of_decide_eq_true h'.1.2
  omega
theorem txt_20 {x : Str} (h : txt (.str x) 1 20 = true) : txt (.str x) 0 40 = true := by
  have := txt_len20 h
  exact txt_of (by omega) (by omega) (txt_all h)
def sp_source_octets : Sp := fun vs H Q _ => ∃ (c : Str) (v : V) (os : List Int), vs = [.str c, v] ∧
  ((∃ n : Nat, c = "fixed" ∧ v = .int n ∧ n ≤ 9999 ∧ os = numOct n 6 192) ∨ (∃ n : Nat, c = "entry" ∧ v = .int n ∧ n ≤ 9999 ∧ os = numOct n 6 128) ∨ ∃ y : Str, c = "new" ∧ v = .str y ∧ txt (.str y) 1 20 = true ∧ os = strOct y 5 64) ∧ RetInts os H Q
theorem RetInts.pre {ns : List Int} {H H1 : Hp} {Q : VK} (s : Same H H1) (h : RetInts ns H Q) : RetInts ns H1 Q := fun p H' hp s2 e => h p H' (s.free hp) (s.trans s2) e
theorem cat_go {a b : List Int} {H H3 : Hp} {Q : VK} {p1 p2 : Addr} (q : RetInts (a ++ b) H Q) (s : Same H H3) (g1 : H3 p1 = some (.lst (a.map V.int))) (g2 : H3 p2 = some (.lst (b.map V.int))) (hl : a.length + b.length ≤ 1000000) : rCat (.ref p1) (.ref p2) H3 Q := by
  refine ⟨p1, p2, _, _, rfl, rfl, g1, g2, by rw [List.length_map, List.length_map, sizeLine_eq]; omega, fun r hr => ?_⟩
  refine q r _ (s.free hr) (s.put (s.free hr)) ?_
  rw [upd_same, List.map_append]
theorem mark0 {b : Nat} (h1 : 1 ≤ b) (h8 : b ≤ 8) : MarkOk b 0 := by
  refine ⟨h1, h8, by decide, ?_⟩
  have : b = 1 ∨ b = 2 ∨ b = 3 ∨ b = 4 ∨ b = 5 ∨ b = 6 ∨ b = 7 ∨ b = 8 := by omega
  rcases this with h | h | h | h | h | h | h | h <;> subst h <;> decide +kernel
theorem strOct_len {x : Str} {b m : Nat} (h : x.length ≤ 40) : (strOct x b m).length ≤ 100 := by
  unfold strOct
  have := numOct_len x.length b m
  rw [List.length_append, List.length_map, ← str_len]
  omega
/-- from a call's result to what is made of it -/
theorem res_map {α β : Type} {K : PySem.W.Frag} {C N r a : Addr} {os : List Int} {H : Hp} {Q Q' : VK} {E : XK} {Ra : α → V → Hp → Prop} {Rb : β → V → Hp → Prop} {x : Except Nat (α × Nat)} {f : α × Nat → β × Nat}
    (q : RdRes K C N r a os H Q E Rb (x.map f)) (hf : ∀ z, (f z).2 = z.2) (h : ∀ z v H1, x = .ok z → But r H H1 → Rd K C H1 r a os z.2 → Ra z.1 v H1 → (∀ v' H2, Same H1 H2 → Rb (f z).1 v' H2 → Q v' H2) → Q' v H1) : RdRes K C N r a os H Q' E Ra x := by
  cases x with
  | error e => exact q
  | ok z =>
    intro v H1 b1 R1 hv
    refine h z v H1 rfl b1 R1 hv fun v' H2 s2 hv' => q v' H2 (b1.trans (But.of s2)) ?_ hv'
    rw [hf z]
    exact R1.keep s2
theorem oct_list {xs : List V} (h : octV xs = true) : ∃ os : List Int, xs = os.map V.int ∧ ∀ o ∈ os, 0 ≤ o ∧ o < 256 := by
  induction xs with
  | nil => exact ⟨[], rfl, fun o ho => nomatch ho⟩
  | cons x xs ih =>
    have h' : (btw x 0 255 && octV xs) = true := h
    rw [Bool.and_eq_true] at h'
    obtain ⟨os, e, ho⟩ := ih h'.2
    cases x with
    | int i =>
      have h2 : (decide ((0 : Int) ≤ i) && decide (i ≤ 255)) = true := h'.1
      rw [Bool.and_eq_true] at h2
      have h3 := of_decide_eq_true h2.1
      have h4 := of_decide_eq_true h2.2
      refine ⟨i :: os, by rw [e]; rfl, fun o hm => ?_⟩
      rcases List.mem_cons.mp hm with z | z
      · subst z; omega
      · exact ho o z
    | _ => exact nomatch (show false = true from h'.1)
theorem same_but {r : Addr} {H H1 H2 : Hp} (hr : H r = none) (s : Same H H1) (b : But r H1 H2) : Same H H2 := fun c o e => b c o (ne_of_none e hr) (s c o e)
end Fld
/-! values of any kind, dicts with int and text keys among them: their data, what isinstance, repr and == with a text say of them -/
namespace Fld
open PySem PySem.Spec PyProof.Rows L2
def ofK : Key → PyData
  | .inl i => .int i
  | .inr x => .str x
mutual
inductive Dv (K : PySem.W.Frag) (H : Hp) : V → PyData → Prop
  | non : Dv K H .non .none
  | bl (b : Bool) : Dv K H (.bl b) (.bool b)
  | int (i : Int) : Dv K H (.int i) (.int i)
  | str (x : Str) : Dv K H (.str x) (.str x)
  | lst {a : Addr} {xs : List V} {ds : List PyData} : SqL K H a xs → DvAll K H xs ds → Dv K H (.ref a) (.list ds)
  | tup {a : Addr} {xs : List V} {ds : List PyData} : SqT K H a xs → DvAll K H xs ds → Dv K H (.ref a) (.tuple ds)
  | dic {a : Addr} {kvs : List (Key × V)} {ps : List (PyData × PyData)} : H a = some (.dK kvs) → kvs.map (fun p => ofK p.1) = ps.map (·.1) → DvAll K H (kvs.map (·.2)) (ps.map (·.2)) → Dv K H (.ref a) (.dict ps)
inductive DvAll (K : PySem.W.Frag) (H : Hp) : List V → List PyData → Prop
  | nil : DvAll K H [] []
  | cons {v : V} {vs : List V} {d : PyData} {ds : List PyData} : Dv K H v d → DvAll K H vs ds → DvAll K H (v :: vs) (d :: ds)
end
mutual
theorem Dv.keep {K : PySem.W.Frag} {H H' : Hp} (s : Same H H') : ∀ {v : V} {d : PyData}, Dv K H v d → Dv K H' v d
  | _, _, .non => .non
  | _, _, .bl b => .bl b
  | _, _, .int i => .int i
  | _, _, .str x => .str x
  | _, _, .lst h a => .lst (s.seq h) (DvAll.keep s a)
  | _, _, .tup h a => .tup (s.tup h) (DvAll.keep s a)
  | _, _, .dic h e a => .dic (s _ _ h) e (DvAll.keep s a)
theorem DvAll.keep {K : PySem.W.Frag} {H H' : Hp} (s : Same H H') : ∀ {vs : List V} {ds : List PyData}, DvAll K H vs ds → DvAll K H' vs ds
  | _, _, .nil => .nil
  | _, _, .cons h t => .cons (Dv.keep s h) (DvAll.keep s t)
end
mutual
theorem Dv.ofDp {K : PySem.W.Frag} {H : Hp} : ∀ {v : V} {d : PyData}, Dp K H v d → Dv K H v d
  | _, _, .non => .non
  | _, _, .bl b => .bl b
  | _, _, .int i => .int i
  | _, _, .str x => .str x
  | _, _, .lst h a => .lst h (DvAll.ofDp a)
  | _, _, .tup h a => .tup h (DvAll.ofDp a)
theorem DvAll.ofDp {K : PySem.W.Frag} {H : Hp} : ∀ {vs : List V} {ds : List PyData}, DpAll K H vs ds → DvAll K H vs ds
  | _, _, .nil => .nil
  | _, _, .cons h t => .cons (Dv.ofDp h) (DvAll.ofDp t)
end
/-! no dict within -/
mutual
def noDict : PyData → Bool
  | .list xs => noDictAll xs
  | .tuple xs => noDictAll xs
  | .dict _ => false
  | _ => true
def noDictAll : List PyData → Bool
  | [] => true
  | x :: xs => noDict x && noDictAll xs
end
mutual
theorem Dv.dp {K : PySem.W.Frag} {H : Hp} : ∀ {v : V} {d : PyData}, Dv K H v d → noDict d = true → Dp K H v d
  | _, _, .non, _ => .non
  | _, _, .bl b, _ => .bl b
  | _, _, .int i, _ => .int i
  | _, _, .str x, _ => .str x
  | _, _, .lst h a, n => .lst h (DvAll.dp a (by simpa [noDict] using n))
  | _, _, .tup h a, n => .tup h (DvAll.dp a (by simpa [noDict] using n))
  | _, _, .dic h e a, n => by simp [noDict] at n
theorem DvAll.dp {K : PySem.W.Frag} {H : Hp} : ∀ {vs : List V} {ds : List PyData}, DvAll K H vs ds → noDictAll ds = true → DpAll K H vs ds
  | _, _, .nil, _ => .nil
  | _, _, .cons h t, n => by
    rw [noDictAll, Bool.and_eq_true] at n
    exact .cons (Dv.dp h n.1) (DvAll.dp t n.2)
end
def tyD : PyData → String
  | .none => "NoneType"
  | .bool _ => "bool"
  | .int _ => "int"
  | .str _ => "str"
  | .list _ => "list"
  | .tuple _ => "tuple"
  | .dict _ => "dict"
theorem Dv.kind {K : PySem.W.Frag} {H : Hp} {v : V} {d : PyData} (h : Dv K H v d) : Kind K H v (tyD d) := by
  cases h with
  | non => exact .non
  | bl b => exact .bl b
  | int i => exact .int i
  | str x => exact .str x
  | lst h a => exact .lst h
  | tup h a => exact .tup h
  | dic h e a => exact .dK h
theorem DvAll.len {K : PySem.W.Frag} {H : Hp} : ∀ {xs : List V} {ds : List PyData}, DvAll K H xs ds → xs.length = ds.length
  | _, _, .nil => rfl
  | _, _, .cons _ t => by rw [List.length_cons, List.length_cons, DvAll.len t]
theorem DvAll.at {K : PySem.W.Frag} {H : Hp} : ∀ {xs : List V} {ds : List PyData} {i : Nat} {x : V}, DvAll K H xs ds → xs[i]? = some x → ∃ d, ds[i]? = some d ∧ Dv K H x d
  | _, _, _, _, .nil, e => by simp at e
  | _, _, 0, _, .cons h _, e => by simp at e; subst e; exact ⟨_, rfl, h⟩
  | _, _, i + 1, x, .cons _ t, e => by
    obtain ⟨d, h1, h2⟩ := DvAll.at (i := i) (x := x) t (by simpa using e)
    exact ⟨d, by simpa using h1, h2⟩
theorem DvAll.at' {K : PySem.W.Frag} {H : Hp} : ∀ {xs : List V} {ds : List PyData} {i : Nat} {d : PyData}, DvAll K H xs ds → ds[i]? = some d → ∃ x, xs[i]? = some x ∧ Dv K H x d
  | _, _, _, _, .nil, e => by simp at e
  | _, _, 0, _, .cons h _, e => by simp at e; subst e; exact ⟨_, rfl, h⟩
  | _, _, i + 1, x, .cons _ t, e => by
    obtain ⟨d, h1, h2⟩ := DvAll.at' (i := i) (d := x) t (by simpa using e)
    exact ⟨d, by simpa using h1, h2⟩
theorem DvAll.app {K : PySem.W.Frag} {H : Hp} : ∀ {xs ys : List V} {ds es : List PyData}, DvAll K H xs ds → DvAll K H ys es → DvAll K H (xs ++ ys) (ds ++ es)
  | _, _, _, _, .nil, s => s
  | _, _, _, _, .cons r t, s => .cons r (DvAll.app t s)
theorem DvAll.take {K : PySem.W.Frag} {H : Hp} : ∀ {xs : List V} {ds : List PyData} (n : Nat), DvAll K H xs ds → DvAll K H (xs.take n) (ds.take n)
  | _, _, 0, _ => .nil
  | _, _, _ + 1, .nil => .nil
  | _, _, n + 1, .cons r t => .cons r (DvAll.take n t)
theorem DvAll.drop {K : PySem.W.Frag} {H : Hp} : ∀ {xs : List V} {ds : List PyData} (n : Nat), DvAll K H xs ds → DvAll K H (xs.drop n) (ds.drop n)
  | _, _, 0, r => r
  | _, _, _ + 1, .nil => .nil
  | _, _, n + 1, .cons _ t => DvAll.drop n t
theorem DvAll.set {K : PySem.W.Frag} {H : Hp} {x : V} {d : PyData} (r : Dv K H x d) : ∀ {xs : List V} {ds : List PyData} (i : Nat), DvAll K H xs ds → DvAll K H (xs.set i x) (ds.set i d)
  | _, _, _, .nil => .nil
  | _, _, 0, .cons _ t => .cons r t
  | _, _, i + 1, .cons q t => .cons q (DvAll.set r i t)
/-! ### what it reads as -/
theorem pairs_reads {P : Program} {w : World} {h : Heap} : ∀ {es : List DictEntry} {vs : List (Key × Value)}, Pairs (mixKind P w) es vs → (∃ as, ReadsAll h (es.map (·.key)) (vs.map fun p => ofK p.1) as ∧ as = []) ∧ es.map (·.val) = vs.map (·.2)
  | _, _, .nil => ⟨⟨_, .nil, rfl⟩, rfl⟩
  | _, _, .cons (e := e) (kv := kv) hk hv t => by
    obtain ⟨⟨as, h1, h0⟩, h2⟩ := pairs_reads (h := h) t
    refine ⟨?_, by rw [List.map_cons, List.map_cons, h2, hv]⟩
    rcases keyIs_shape (k := kv.1) (v := e.key) hk with ⟨i, u, e1, e2⟩ | ⟨x, u, e1, e2⟩
    · refine ⟨_, ReadsAll.cons (as := []) (bs := as) ?_ h1, by rw [h0]; rfl⟩
      show Reads h e.key (ofK kv.1) []
      rw [e1, e2]
      exact Reads.int i u
    · refine ⟨_, ReadsAll.cons (as := []) (bs := as) ?_ h1, by rw [h0]; rfl⟩
      show Reads h e.key (ofK kv.1) []
      rw [e1, e2]
      exact Reads.str x u
theorem kv_keys {kvs : List (Key × V)} {vs : List (Key × Value)} (r : KV kvs vs) : vs.map (fun p => ofK p.1) = kvs.map fun p => ofK p.1 := by
  have h := r.keys
  have e1 : vs.map (fun p => ofK p.1) = (vs.map (·.1)).map ofK := by rw [List.map_map]; rfl
  have e2 : kvs.map (fun p => ofK p.1) = (kvs.map (·.1)).map ofK := by rw [List.map_map]; rfl
  rw [e1, e2, h]
theorem kv_vals : ∀ {kvs : List (Key × V)} {vs : List (Key × Value)}, KV kvs vs → Vals (kvs.map (·.2)) (vs.map (·.2))
  | _, _, .nil => .nil
  | _, _, .cons r t => .cons r.2 (kv_vals t)
theorem sys_tracked {X : Cx} {pins : List (Addr × Obj)} {σ : L2.St} {H : Hp} {s : Shared} (I : Inv X pins σ H s) {a : Addr} {kvs : List (Key × V)} (e : H a = some (.dK kvs)) : (a == sysModules) = false := (dk_of I.hok e).2.1
mutual
theorem Dv.reads {X : Cx} {pins : List (Addr × Obj)} {σ : L2.St} {H : Hp} {s : Shared} (I : Inv X pins σ H s) : ∀ {d : PyData} {v : V} {u : Value}, Dv X.K H v d → RelV v u → ∃ as, Reads s.heap u d as
  | _, _, _, .non, r => by cases r; exact ⟨_, Reads.none⟩
  | _, _, _, .bl b, r => by cases r; exact ⟨_, Reads.bool b⟩
  | _, _, _, .int i, r => by obtain ⟨t, rfl⟩ := r; exact ⟨_, Reads.int i t⟩
  | _, _, _, .str x, r => by obtain ⟨t, rfl⟩ := r; exact ⟨_, Reads.str x t⟩
  | _, _, _, .lst hs ha, r => by
    cases r
    obtain ⟨its, rv, ⟨o, n, ho, hc, _, hd⟩, _⟩ := I.list hs
    obtain ⟨as, hr⟩ := DvAll.reads I ha rv
    exact ⟨_, Reads.list ho hc hd hr⟩
  | _, _, _, .tup hs ha, r => by
    cases r
    obtain ⟨its, rv, ⟨o, ho, hc, n, hd⟩, _⟩ := I.tuple hs
    obtain ⟨as, hr⟩ := DvAll.reads I ha rv
    exact ⟨_, Reads.tuple ho hc hd hr⟩
  | .dict ps, _, _, .dic (kvs := kvs) hs he ha, r => by
    cases r
    obtain ⟨_, hy, vs, kv, ⟨o, es, ep, ho, ex, hd, _, pr, _⟩⟩ := dk_of I.hok hs
    obtain ⟨⟨as, h1, n1⟩, h2⟩ := pairs_reads (h := s.heap) pr
    obtain ⟨bs, h3⟩ := DvAll.reads I ha (kv_vals kv)
    rw [kv_keys kv, he] at h1
    exact ⟨_, Reads.dict ho ex.1 hd h1 (by rw [h2]; exact h3)⟩
theorem DvAll.reads {X : Cx} {pins : List (Addr × Obj)} {σ : L2.St} {H : Hp} {s : Shared} (I : Inv X pins σ H s) : ∀ {ds : List PyData} {vs : List V} {us : List Value}, DvAll X.K H vs ds → Vals vs us → ∃ as, ReadsAll s.heap us ds as
  | _, _, _, .nil, r => by cases r; exact ⟨_, ReadsAll.nil⟩
  | _, _, _, .cons h1 h2, r => by
    cases r with
    | cons r1 r2 =>
      obtain ⟨as, q1⟩ := Dv.reads I h1 r1
      obtain ⟨bs, q2⟩ := DvAll.reads I h2 r2
      exact ⟨_, ReadsAll.cons q1 q2⟩
end
/-- the text of a value by its parts, none of which is deeper than n -/
def Shw (P : Program) (w : World) (h : Heap) (n : Nat) (u : Value) (t : Str) : Prop := ∃ bs, ReadAtMost h n bs ∧ ReprK P w bs h n u t
def ShwAll (P : Program) (w : World) (h : Heap) (n : Nat) (us : List Value) (ts : List Str) : Prop := ∃ bs, ReadAtMost h n bs ∧ ReprAllK P w bs h n us ts
theorem shw_is {P : Program} {w : World} {h : Heap} {n : Nat} {u : Value} {t : Str} (r : ReprIs P w u t) : Shw P w h n u t := ⟨[], fun _ z => (nomatch z), .of_is r _ _ _⟩
theorem ShwAll.mono {P : Program} {w : World} {h : Heap} {n m : Nat} {us : List Value} {ts : List Str} (l : n ≤ m) : ShwAll P w h n us ts → ShwAll P w h m us ts := fun ⟨bs, a, b⟩ => ⟨bs, a.mono l, b.more_le (fun _ z => z) l⟩
theorem ShwAll.cons {P : Program} {w : World} {h : Heap} {n m : Nat} {u : Value} {t : Str} {us : List Value} {ts : List Str} : Shw P w h n u t → ShwAll P w h m us ts → ShwAll P w h (max n m) (u :: us) (t :: ts) := by
  rintro ⟨bs, a, b⟩ ⟨cs, c, d⟩
  have l1 := Nat.le_max_left n m
  have l2 := Nat.le_max_right n m
  refine ⟨bs ++ cs, (a.mono l1).append (c.mono l2), ReprAllK.cons ((b.more fun z hz => ?_).level_le l1) (d.more_le (fun z hz => ?_) l2)⟩
  · exact List.mem_append.mpr (.inl hz)
  · exact List.mem_append.mpr (.inr hz)
theorem pairs_show {P : Program} {w : World} {h : Heap} : ∀ {es : List DictEntry} {vs : List (Key × Value)}, Pairs (mixKind P w) es vs → PyData.showableAll (vs.map fun p => ofK p.1) = true → (∀ t ∈ PyData.shownAll (vs.map fun p => ofK p.1), t.length ≤ sizeLine) →
    ShwAll P w h (PyData.depthAll (vs.map fun p => ofK p.1)) (es.map (·.key)) (PyData.shownAll (vs.map fun p => ofK p.1))
  | _, _, .nil, _, _ => ⟨[], fun _ z => (nomatch z), by simp only [List.map_nil, PyData.shownAll]; exact .nil⟩
  | _, _, .cons (e := e) (kv := kv) hk hv t, hs, hz => by
    rw [List.map_cons, PyData.showableAll, Bool.and_eq_true] at hs
    rw [List.map_cons, PyData.shownAll] at hz
    rw [List.map_cons, List.map_cons, PyData.shownAll, PyData.depthAll]
    refine ShwAll.cons ?_ (pairs_show t hs.2 fun x hx => hz x (List.mem_cons.mpr (.inr hx)))
    have z1 := hz _ (List.mem_cons.mpr (.inl rfl))
    have s1 := hs.1
    rcases keyIs_shape (k := kv.1) (v := e.key) hk with ⟨i, u, e1, e2⟩ | ⟨x, u, e1, e2⟩
    · rw [e1] at s1 z1 ⊢
      rw [e2]
      have s2 : PyData.showable (.int i) = true := s1
      exact shw_is (ReprIs.int u (by simpa [PyData.showable] using s2))
    · rw [e1] at s1 z1 ⊢
      rw [e2]
      exact shw_is (ReprIs.str x u (by simpa [ofK, PyData.shown] using z1))
mutual
theorem Dv.show {X : Cx} {pins : List (Addr × Obj)} {σ : L2.St} {H : Hp} {s : Shared} (I : Inv X pins σ H s) : ∀ {d : PyData} {v : V} {u : Value}, Dv X.K H v d → RelV v u → d.showable = true → d.shown.length ≤ sizeLine → Shw X.prog X.w s.heap d.depth u d.shown
  | _, _, _, .non, r, _, _ => by cases r; rw [PyData.shown]; exact shw_is ReprIs.none
  | _, _, _, .bl b, r, _, _ => by cases r; rw [PyData.shown]; exact shw_is (ReprIs.bool b)
  | _, _, _, .int i, r, hs, _ => by obtain ⟨t, rfl⟩ := r; rw [PyData.shown]; exact shw_is (ReprIs.int t (by simpa [PyData.showable] using hs))
  | _, _, _, .str x, r, _, hz => by obtain ⟨t, rfl⟩ := r; rw [PyData.shown] at hz ⊢; exact shw_is (ReprIs.str x t hz)
  | .list ds, .ref a, _, .lst hs ha, r, sh, hz => by
    cases r
    obtain ⟨its, rv, ⟨o, n, ho, hc, _, hd⟩, _⟩ := I.list hs
    obtain ⟨as, hr⟩ := DvAll.reads I ha rv
    have rd : Reads s.heap (.ref a) (.list ds) _ := Reads.list ho hc hd hr
    rw [PyData.shown] at hz ⊢
    obtain ⟨bs, hb, hk⟩ := DvAll.show I ha rv (by simpa [PyData.showable] using sh) fun t ht => Nat.le_trans (listText_mem_le ht) hz
    have na : a ∉ bs := not_mem_of_deeper rd (by rw [PyData.depth]; omega) hb
    refine ⟨a :: bs, ReadAtMost.cons rd (by rw [PyData.depth]; omega) hb, ?_⟩
    rw [PyData.depth]
    cases its with
    | nil =>
      cases hr
      simp only [listText_nil, PyData.shownAll]
      exact .listEmpty ho hc hd
    | cons x l => exact .list ho hc hd na (by simpa using hk.length_eq) fun i y e => hk.item i y (by simpa using e)
  | .tuple ds, .ref a, _, .tup hs ha, r, sh, hz => by
    cases r
    obtain ⟨its, rv, ⟨o, ho, hc, n, hd⟩, _⟩ := I.tuple hs
    obtain ⟨as, hr⟩ := DvAll.reads I ha rv
    have rd : Reads s.heap (.ref a) (.tuple ds) _ := Reads.tuple ho hc hd hr
    rw [PyData.shown] at hz ⊢
    obtain ⟨bs, hb, hk⟩ := DvAll.show I ha rv (by simpa [PyData.showable] using sh) fun t ht => Nat.le_trans (tupleText_mem_le ht) hz
    have na : a ∉ bs := not_mem_of_deeper rd (by rw [PyData.depth]; omega) hb
    refine ⟨a :: bs, ReadAtMost.cons rd (by rw [PyData.depth]; omega) hb, ?_⟩
    rw [PyData.depth]
    exact .tuple ho hc hd na hk
  | .dict ps, .ref a, _, .dic (kvs := kvs) hs he ha, r, sh, hz => by
    cases r
    obtain ⟨_, hy, vs, kv, ⟨o, es, ep, ho, ex, hd, _, pr, _⟩⟩ := dk_of I.hok hs
    obtain ⟨⟨as, h1, n1⟩, h2⟩ := pairs_reads (h := s.heap) pr
    obtain ⟨bs, h3⟩ := DvAll.reads I ha (kv_vals kv)
    obtain ⟨sh1, sh2⟩ := PyData.showableKv_split ps (by simpa [PyData.showable] using sh)
    rw [PyData.shown] at hz ⊢
    have k1 := pairs_show (h := s.heap) pr (by rw [kv_keys kv, he]; exact sh1) (fun t ht => by
      rw [kv_keys kv, he] at ht
      obtain ⟨p, hp, hl⟩ := PyData.shownKv_key_le ps t ht
      exact Nat.le_trans hl (Nat.le_trans (dictText_mem_le hp) hz))
    rw [kv_keys kv, he] at k1 h1
    have k2 := DvAll.show I ha (kv_vals kv) sh2 (fun t ht => by
      obtain ⟨p, hp, hl⟩ := PyData.shownKv_val_le ps t ht
      exact Nat.le_trans hl (Nat.le_trans (dictText_mem_le hp) hz))
    rw [← h2] at k2 h3
    have rd : Reads s.heap (.ref a) (.dict ps) _ := Reads.dict ho ex.1 hd h1 h3
    obtain ⟨b1, r1, q1⟩ := k1.mono (PyData.depthAll_keys_le ps)
    obtain ⟨b2, r2, q2⟩ := k2.mono (PyData.depthAll_vals_le ps)
    have hb := r1.append r2
    have na : a ∉ b1 ++ b2 := not_mem_of_deeper rd (by rw [PyData.depth]; omega) hb
    refine ⟨a :: (b1 ++ b2), ReadAtMost.cons rd (by rw [PyData.depth]; omega) hb, ?_⟩
    rw [PyData.depth, PyData.shownKv_eq]
    refine .dict ho ex.1 hd hy na (ReprEntriesK.of_two es.toList _ _ (q1.more_le (fun z hz => ?_) (Nat.le_refl _)) (q2.more_le (fun z hz => ?_) (Nat.le_refl _)))
    · exact List.mem_append.mpr (.inl hz)
    · exact List.mem_append.mpr (.inr hz)
theorem DvAll.show {X : Cx} {pins : List (Addr × Obj)} {σ : L2.St} {H : Hp} {s : Shared} (I : Inv X pins σ H s) : ∀ {ds : List PyData} {vs : List V} {us : List Value}, DvAll X.K H vs ds → Vals vs us → PyData.showableAll ds = true → (∀ t ∈ PyData.shownAll ds, t.length ≤ sizeLine) →
    ShwAll X.prog X.w s.heap (PyData.depthAll ds) us (PyData.shownAll ds)
  | _, _, _, .nil, r, _, _ => by cases r; rw [PyData.shownAll]; exact ⟨[], fun _ z => (nomatch z), .nil⟩
  | _, _, _, .cons h1 h2, r, sh, hz => by
    cases r with
    | cons r1 r2 =>
      rw [PyData.showableAll, Bool.and_eq_true] at sh
      rw [PyData.shownAll] at hz ⊢
      rw [PyData.depthAll]
      exact ShwAll.cons (Dv.show I h1 r1 sh.1 (hz _ (List.mem_cons.mpr (.inl rfl)))) (DvAll.show I h2 r2 sh.2 fun x hx => hz x (List.mem_cons.mpr (.inr hx)))
end
/-! ### weight and repr -/
mutual
def okV : PyData → Bool
  | .none => true
  | .bool _ => true
  | .int i => decide (i.natAbs < 2 ^ 1000)
  | .str x => x.cps.toList.all fun c => decide (c < 4294967296)
  | .list xs => okVAll xs
  | .tuple xs => okVAll xs
  | .dict ps => okVKv ps
def okVAll : List PyData → Bool
  | [] => true
  | x :: xs => okV x && okVAll xs
def okVKv : List (PyData × PyData) → Bool
  | [] => true
  | (a, b) :: r => okV a && okV b && okVKv r
end
mutual
/-- no less than the length of its text -/
def wV : PyData → Nat
  | .none => 4
  | .bool _ => 5
  | .int _ => 1010
  | .str x => 10 * x.length + 2
  | .list xs => wVAll xs + 4
  | .tuple xs => wVAll xs + 4
  | .dict ps => wVKv ps + 4
def wVAll : List PyData → Nat
  | [] => 0
  | x :: xs => wV x + 2 + wVAll xs
def wVKv : List (PyData × PyData) → Nat
  | [] => 0
  | (a, b) :: r => wV a + wV b + 6 + wVKv r
end
theorem wVAll_len : ∀ ds : List PyData, ds.length ≤ wVAll ds
  | [] => Nat.le_refl _
  | d :: ds => by have := wVAll_len ds; rw [wVAll, List.length_cons]; omega
theorem wVAll_mem : ∀ {ds : List PyData} {d : PyData}, d ∈ ds → wV d + 2 ≤ wVAll ds
  | e :: ds, d, h => by
    rw [wVAll]
    rcases List.mem_cons.mp h with rfl | h
    · omega
    · have := wVAll_mem h; omega
theorem wVAll_app : ∀ (xs ys : List PyData), wVAll (xs ++ ys) = wVAll xs + wVAll ys
  | [], ys => by rw [List.nil_append, wVAll]; omega
  | x :: xs, ys => by rw [List.cons_append, wVAll, wVAll, wVAll_app xs ys]; omega
theorem okVAll_app : ∀ (xs ys : List PyData), okVAll (xs ++ ys) = (okVAll xs && okVAll ys)
  | [], ys => by rw [List.nil_append, okVAll]; rfl
  | x :: xs, ys => by rw [List.cons_append, okVAll, okVAll, okVAll_app xs ys, Bool.and_assoc]
theorem okVAll_mem : ∀ {ds : List PyData} {d : PyData}, okVAll ds = true → d ∈ ds → okV d = true
  | e :: ds, d, k, h => by
    rw [okVAll, Bool.and_eq_true] at k
    rcases List.mem_cons.mp h with rfl | h
    · exact k.1
    · exact okVAll_mem k.2 h
theorem okVAll_of : ∀ {ds : List PyData}, (∀ d ∈ ds, okV d = true) → okVAll ds = true
  | [], _ => rfl
  | e :: ds, h => by
    rw [okVAll, Bool.and_eq_true]
    exact ⟨h e (List.mem_cons_self ..), okVAll_of fun d hd => h d (List.mem_cons_of_mem _ hd)⟩
theorem dictText_le : ∀ (ps : List (PyData × PyData)), (dictText (PyData.shownKv ps)).length ≤ piled (PyData.shownKv ps) + 4 := by
  intro ps
  unfold dictText
  rw [strLen_append, strLen_append]
  have e1 : ((("{" : String) : Str)).length = 1 := rfl
  have e3 : ((("}" : String) : Str)).length = 1 := rfl
  by_cases h : PyData.shownKv ps = []
  · rw [h]
    have e0 : (Str.join ", " []).length = 0 := rfl
    omega
  · have := join_length_add (PyData.shownKv ps) h
    omega
mutual
theorem shownV_le : ∀ d : PyData, okV d = true → d.shown.length ≤ wV d ∧ d.showable = true
  | .none, _ => ⟨by decide, rfl⟩
  | .bool b, _ => ⟨by cases b <;> decide, rfl⟩
  | .int i, h => by
    have h' : i.natAbs < 2 ^ 1000 := of_decide_eq_true (show decide _ = true from h)
    exact ⟨toString_le h', decide_eq_true (log_le h')⟩
  | .str x, h => by
    refine ⟨StrLaws.reprText_len x fun c hc => ?_, rfl⟩
    have h' : (x.cps.toList.all fun c => decide (c < 4294967296)) = true := h
    have := of_decide_eq_true (List.all_eq_true.mp h' c hc)
    have e : (16 : Nat) ^ 8 = 4294967296 := by decide
    omega
  | .list xs, h => by
    have ih := shownVAll_le xs h
    refine ⟨?_, by rw [PyData.showable]; exact ih.2⟩
    rw [PyData.shown, wV]
    have := listText_le (PyData.shownAll xs)
    omega
  | .tuple xs, h => by
    have ih := shownVAll_le xs h
    refine ⟨?_, by rw [PyData.showable]; exact ih.2⟩
    rw [PyData.shown, wV]
    have := tupleText_le (PyData.shownAll xs)
    omega
  | .dict ps, h => by
    have ih := shownVKv_le ps h
    refine ⟨?_, by rw [PyData.showable]; exact ih.2⟩
    rw [PyData.shown, wV]
    have := dictText_le ps
    omega
theorem shownVAll_le : ∀ ds : List PyData, okVAll ds = true → piled (PyData.shownAll ds) ≤ wVAll ds ∧ PyData.showableAll ds = true
  | [], _ => ⟨by rw [PyData.shownAll]; exact Nat.le_refl _, rfl⟩
  | d :: ds, h => by
    have h' : (okV d && okVAll ds) = true := by rw [okVAll] at h; exact h
    rw [Bool.and_eq_true] at h'
    have i1 := shownV_le d h'.1
    have i2 := shownVAll_le ds h'.2
    refine ⟨?_, by rw [PyData.showableAll, i1.2, i2.2]; rfl⟩
    rw [PyData.shownAll, wVAll]
    have e2 : piled (d.shown :: PyData.shownAll ds) = d.shown.length + 2 + piled (PyData.shownAll ds) := by unfold piled; rw [List.map_cons, List.sum_cons]
    omega
theorem shownVKv_le : ∀ ps : List (PyData × PyData), okVKv ps = true → piled (PyData.shownKv ps) ≤ wVKv ps ∧ PyData.showableKv ps = true
  | [], _ => ⟨by rw [PyData.shownKv]; exact Nat.le_refl _, rfl⟩
  | (a, b) :: r, h => by
    have h' : (okV a && okV b && okVKv r) = true := by rw [okVKv] at h; exact h
    rw [Bool.and_eq_true, Bool.and_eq_true] at h'
    have i1 := shownV_le a h'.1.1
    have i2 := shownV_le b h'.1.2
    have i3 := shownVKv_le r h'.2
    refine ⟨?_, by rw [PyData.showableKv, i1.2, i2.2, i3.2]; rfl⟩
    rw [PyData.shownKv, wVKv]
    have e2 : ∀ (t : Str) (l : List Str), piled (t :: l) = t.length + 2 + piled l := fun t l => by unfold piled; rw [List.map_cons, List.sum_cons]
    rw [e2, strLen_append, strLen_append]
    have e3 : (((": " : String) : Str)).length = 2 := rfl
    omega
end
/-- how deep -/
def rReprV (K : PySem.W.Frag) : List V → Hp → VK → Prop := fun xs H Q => ∃ (x : V) (d : PyData), xs = [x] ∧ Dv K H x d ∧ okV d = true ∧ d.depth ≤ 40 ∧ wV d ≤ 10000000 ∧ Q (.str d.shown) H
theorem shows_call {P : Program} {w : World} {s : Shared} {a : Addr} {d : PyData} {T idr : String} {A : Around} {E : Value → Shared → Prop} {Q : Value → Shared → Prop} (hg : A.guards = some []) (hu : A.units + (d.depth + 1) < cLine) (S : ShowsBy P w s.heap a d T idr)
    (q : ∀ h' u tk, (∀ b o, s.heap.get? b = some o → h'.get? b = some o) → Q (.str d.shown u) { s with heap := h', toks := tk }) : wpAny (model P w) A (call (.builtin "repr") [.ref a]) Q E s :=
  call_repr_slot (by omega) (S.typeIs s fun _ _ e => e) S.slotRepr (S.call A.in1 E s _ hg (by show A.units + 1 + d.depth < cLine; omega) (fun _ _ e => e) fun h' u tk hk => ⟨_, _, rfl, q h' u tk hk⟩)
theorem call_reprV {X : Cx} (hg : X.A.guards = some []) (hu : X.A.units + 64 < cLine) : CallR X (.builtin "repr") (rReprV X.K) := by
  intro pins s σ H xs us Q I r h
  obtain ⟨x, d, rfl, hd, ok, hn, hw, q⟩ := h
  obtain ⟨u, rfl, ru⟩ := vals1 r
  obtain ⟨hl, hs⟩ := shownV_le d ok
  have hsz : d.shown.length ≤ sizeLine := by rw [sizeLine_eq]; omega
  cases hd with
  | non =>
    cases ru
    exact P.repr_of_none ⟨.str _, H, I.tok _, ⟨_, rfl⟩, q⟩
  | bl b =>
    cases ru
    exact P.repr_of_bool ⟨.str _, H, I.tok _, ⟨_, rfl⟩, q⟩
  | int i =>
    obtain ⟨t, rfl⟩ := ru
    have h' : i.natAbs < 2 ^ 1000 := of_decide_eq_true (show decide _ = true from ok)
    exact P.repr_of_int (log_le h') ⟨.str _, H, I.tok _, ⟨_, rfl⟩, q⟩
  | str z =>
    obtain ⟨t, rfl⟩ := ru
    exact P.repr_of_str ⟨.str _, H, I.tok _, ⟨_, rfl⟩, q⟩ hsz
  | @lst a xs ds hs2 ha =>
    cases ru
    refine shows_call (T := "list") (idr := "list.__repr__") (d := .list ds) hg (by omega) ⟨F.slot_list_repr.toG, F.slot_list_str, F.slot_list_format, fun s2 hk => ?_, fun A E s2 Q2 hg2 hu2 hk0 hQ => ?_⟩ fun h' tu tk hk => ⟨.str _, H, I.kept hk, ⟨_, rfl⟩, q⟩
    · obtain ⟨its, rv, ⟨o, n, ho, hc, _, hd⟩, _⟩ := I.list hs2
      exact ⟨o, hk _ _ ho, hc⟩
    · obtain ⟨its, rv, ⟨o, n, ho, hc, _, hd⟩, _⟩ := I.list hs2
      rw [PyData.shown] at hsz hQ
      rw [PyData.depth] at hu2
      obtain ⟨bs, hb, hk⟩ := DvAll.show I ha rv (by simpa [PyData.showable] using hs) fun t ht => Nat.le_trans (listText_mem_le ht) hsz
      obtain ⟨as, hr⟩ := DvAll.reads I ha rv
      have na : a ∉ bs := not_mem_of_deeper (Reads.list ho hc hd hr) (by rw [PyData.depth]; omega) hb
      cases its with
      | nil =>
        cases hr
        rw [PyData.shownAll, listText_nil] at hQ
        exact call_list_repr_empty ⟨o, hk0 _ _ ho, hc⟩ (hk0 _ _ ho) hd (hQ s2.heap _ _ fun _ _ e => e)
      | cons y l => exact call_list_reprK ho hc hd na (by simpa using hk.length_eq) (fun i z e => hk.item i z (by simpa using e)) hg2 (fun b _ => Clear.nil b) hu2 hk0 hQ hsz
  | @tup a xs ds hs2 ha =>
    cases ru
    refine shows_call (T := "tuple") (idr := "tuple.__repr__") (d := .tuple ds) hg (by omega) ⟨F.slot_tuple_repr, F.slot_tuple_str, F.slot_tuple_format, fun s2 hk => ?_, fun A E s2 Q2 hg2 hu2 hk0 hQ => ?_⟩ fun h' tu tk hk => ⟨.str _, H, I.kept hk, ⟨_, rfl⟩, q⟩
    · obtain ⟨its, rv, ⟨o, ho, hc, n, hd⟩, _⟩ := I.tuple hs2
      exact ⟨o, hk _ _ ho, hc⟩
    · obtain ⟨its, rv, ⟨o, ho, hc, n, hd⟩, _⟩ := I.tuple hs2
      rw [PyData.shown] at hsz hQ
      rw [PyData.depth] at hu2
      obtain ⟨bs, hb, hk⟩ := DvAll.show I ha rv (by simpa [PyData.showable] using hs) fun t ht => Nat.le_trans (tupleText_mem_le ht) hsz
      obtain ⟨as, hr⟩ := DvAll.reads I ha rv
      have na : a ∉ bs := not_mem_of_deeper (Reads.tuple ho hc hd hr) (by rw [PyData.depth]; omega) hb
      exact call_tuple_reprK ho hc hd na hk hg2 (fun b _ => Clear.nil b) hu2 hk0 hQ hsz
  | @dic a kvs ps hs2 he ha =>
    cases ru
    refine shows_call (T := "dict") (idr := "dict.__repr__") (d := .dict ps) hg (by omega) ⟨F.slot_dict_repr, F.slot_dict_str, F.slot_dict_format, fun s2 hk => ?_, fun A E s2 Q2 hg2 hu2 hk0 hQ => ?_⟩ fun h' tu tk hk => ⟨.str _, H, I.kept hk, ⟨_, rfl⟩, q⟩
    · obtain ⟨_, hy, vs, kv, ⟨o, es, ep, ho, ex, hd, _, pr, _⟩⟩ := dk_of I.hok hs2
      exact ⟨o, hk _ _ ho, ex.1⟩
    · obtain ⟨_, hy, vs, kv, ⟨o, es, ep, ho, ex, hd, _, pr, _⟩⟩ := dk_of I.hok hs2
      obtain ⟨⟨as, h1, n1⟩, h2⟩ := pairs_reads (h := s.heap) pr
      obtain ⟨bs, h3⟩ := DvAll.reads I ha (kv_vals kv)
      obtain ⟨sh1, sh2⟩ := PyData.showableKv_split ps (by simpa [PyData.showable] using hs)
      rw [PyData.shown] at hsz hQ
      rw [PyData.depth] at hu2
      have k1 := pairs_show (h := s.heap) pr (by rw [kv_keys kv, he]; exact sh1) (fun t ht => by
        rw [kv_keys kv, he] at ht
        obtain ⟨p, hp, hl⟩ := PyData.shownKv_key_le ps t ht
        exact Nat.le_trans hl (Nat.le_trans (dictText_mem_le hp) hsz))
      rw [kv_keys kv, he] at k1 h1
      have k2 := DvAll.show I ha (kv_vals kv) sh2 (fun t ht => by
        obtain ⟨p, hp, hl⟩ := PyData.shownKv_val_le ps t ht
        exact Nat.le_trans hl (Nat.le_trans (dictText_mem_le hp) hsz))
      rw [← h2] at k2 h3
      obtain ⟨b1, r1, q1⟩ := k1.mono (PyData.depthAll_keys_le ps)
      obtain ⟨b2, r2, q2⟩ := k2.mono (PyData.depthAll_vals_le ps)
      have na : a ∉ b1 ++ b2 := not_mem_of_deeper (Reads.dict ho ex.1 hd h1 h3) (by rw [PyData.depth]; omega) (r1.append r2)
      rw [PyData.shownKv_eq] at hQ hsz
      refine call_dict_reprK ho ex.1 hd hy na (ReprEntriesK.of_two es.toList _ _ (q1.more_le (fun z hz => ?_) (Nat.le_refl _)) (q2.more_le (fun z hz => ?_) (Nat.le_refl _))) hg2 (fun b _ => Clear.nil b) hu2 hk0 hQ hsz
      · exact List.mem_append.mpr (.inl hz)
      · exact List.mem_append.mpr (.inr hz)
end Fld
/-! what a field, a list of fields, a setting is, over data of any kind -/
namespace Fld
open PySem PySem.Spec PyProof.Rows L2
def dBtw : PyData → Int → Int → Bool
  | .int i, a, b => decide (a ≤ i) && decide (i ≤ b)
  | _, _, _ => false
def dTxt : PyData → Int → Int → Bool
  | .str x, a, b => decide (a ≤ (x.length : Int)) && decide ((x.length : Int) ≤ b) && x.cps.toList.all isChar
  | _, _, _ => false
theorem Dv.btw {K : PySem.W.Frag} {H : Hp} {v : V} {d : PyData} (h : Dv K H v d) (a b : Int) : Fld.btw v a b = dBtw d a b := by cases h <;> rfl
theorem Dv.txt {K : PySem.W.Frag} {H : Hp} {v : V} {d : PyData} (h : Dv K H v d) (a b : Int) : Fld.txt v a b = dTxt d a b := by cases h <;> rfl
theorem Dv.strLe {K : PySem.W.Frag} {H : Hp} {v : V} {d : PyData} (h : Dv K H v d) (hw : wV d ≤ 1000000) : ∀ x, v = .str x → x.length ≤ 100000 := by
  rintro x rfl
  cases h
  rw [wV] at hw
  omega
def dField : PyData → Bool
  | .tuple [n, v] => dTxt n 1 20 && dTxt v 0 40
  | _ => false
def dFields (most : Nat) : PyData → Bool
  | .tuple ds => decide (ds.length ≤ most) && ds.all dField
  | _ => false
def dSetting : PyData → Bool
  | .tuple [f, r, w] => dFields 12 f && dBtw r 0 120 && dBtw w 0 4
  | _ => false
def dOctets : PyData → Bool
  | .list ds => ds.all fun d => dBtw d 0 255
  | _ => false
def isTup : PyData → Bool
  | .tuple _ => true
  | _ => false
def isLst : PyData → Bool
  | .list _ => true
  | _ => false
def isStr : PyData → Bool
  | .str _ => true
  | _ => false
def isDic : PyData → Bool
  | .dict _ => true
  | _ => false
theorem sub_tup (d : PyData) : subT (tyD d) "tuple" = isTup d := by
  cases d with
  | none => decide
  | bool b => show subT "bool" "tuple" = false; decide
  | int i => show subT "int" "tuple" = false; decide
  | str x => show subT "str" "tuple" = false; decide
  | list l => show subT "list" "tuple" = false; decide
  | tuple l => show subT "tuple" "tuple" = true; decide
  | dict l => show subT "dict" "tuple" = false; decide
theorem sub_lst (d : PyData) : subT (tyD d) "list" = isLst d := by
  cases d with
  | none => decide
  | bool b => show subT "bool" "list" = false; decide
  | int i => show subT "int" "list" = false; decide
  | str x => show subT "str" "list" = false; decide
  | list l => show subT "list" "list" = true; decide
  | tuple l => show subT "tuple" "list" = false; decide
  | dict l => show subT "dict" "list" = false; decide
theorem sub_str (d : PyData) : subT (tyD d) "str" = isStr d := by
  cases d with
  | none => decide
  | bool b => show subT "bool" "str" = false; decide
  | int i => show subT "int" "str" = false; decide
  | str x => show subT "str" "str" = true; decide
  | list l => show subT "list" "str" = false; decide
  | tuple l => show subT "tuple" "str" = false; decide
  | dict l => show subT "dict" "str" = false; decide
theorem sub_dic (d : PyData) : subT (tyD d) "dict" = isDic d := by
  cases d with
  | none => decide
  | bool b => show subT "bool" "dict" = false; decide
  | int i => show subT "int" "dict" = false; decide
  | str x => show subT "str" "dict" = false; decide
  | list l => show subT "list" "dict" = false; decide
  | tuple l => show subT "tuple" "dict" = false; decide
  | dict l => show subT "dict" "dict" = true; decide
theorem Dv.asT {K : PySem.W.Frag} {H : Hp} {v : V} {d : PyData} (h : Dv K H v d) (e : subT (tyD d) "tuple" = true) : ∃ a xs ds, v = .ref a ∧ d = .tuple ds ∧ SqT K H a xs ∧ DvAll K H xs ds := by
  rw [sub_tup] at e
  cases h <;> first | cases e | skip
  rename_i hs ha
  exact ⟨_, _, _, rfl, rfl, hs, ha⟩
theorem Dv.asL {K : PySem.W.Frag} {H : Hp} {v : V} {d : PyData} (h : Dv K H v d) (e : subT (tyD d) "list" = true) : ∃ a xs ds, v = .ref a ∧ d = .list ds ∧ SqL K H a xs ∧ DvAll K H xs ds := by
  rw [sub_lst] at e
  cases h <;> first | cases e | skip
  rename_i hs ha
  exact ⟨_, _, _, rfl, rfl, hs, ha⟩
theorem Dv.asS {K : PySem.W.Frag} {H : Hp} {v : V} {d : PyData} (h : Dv K H v d) (e : subT (tyD d) "str" = true) : ∃ x, v = .str x ∧ d = .str x := by
  rw [sub_str] at e
  cases h <;> first | cases e | skip
  exact ⟨_, rfl, rfl⟩
theorem nb {c : Bool} (e : (!c) = true) : c = false := by cases c <;> first | rfl | cases e
theorem nb' {c : Bool} (e : (!c) = false) : c = true := by cases c <;> first | rfl | cases e
theorem dField_no {d : PyData} (e : subT (tyD d) "tuple" = false) : dField d = false := by
  rw [sub_tup] at e
  cases d <;> first | rfl | cases e
theorem dFields_no {d : PyData} {m : Nat} (e : subT (tyD d) "tuple" = false) : dFields m d = false := by
  rw [sub_tup] at e
  cases d <;> first | rfl | cases e
theorem dSetting_no {d : PyData} (e : subT (tyD d) "tuple" = false) : dSetting d = false := by
  rw [sub_tup] at e
  cases d <;> first | rfl | cases e
theorem dOctets_no {d : PyData} (e : subT (tyD d) "list" = false) : dOctets d = false := by
  rw [sub_lst] at e
  cases d <;> first | rfl | cases e
theorem dTxt_no {d : PyData} {a b : Int} (e : subT (tyD d) "str" = false) : dTxt d a b = false := by
  rw [sub_str] at e
  cases d <;> first | rfl | cases e
/-- a check: True or False, all that stood stands -/
def sp_chk (K : PySem.W.Frag) (f : PyData → Bool) : Sp := fun vs H Q _ => ∃ (v : V) (d : PyData), vs = [v] ∧ Dv K H v d ∧ wV d ≤ 1000000 ∧ ∀ H', Same H H' → Q (.bl (f d)) H'
def sp_chkM (K : PySem.W.Frag) (f : Nat → PyData → Bool) : Sp := fun vs H Q _ => ∃ (v : V) (d : PyData) (m : Nat), vs = [v, .int (m : Nat)] ∧ Dv K H v d ∧ wV d ≤ 1000000 ∧ ∀ H', Same H H' → Q (.bl (f m d)) H'
def sp_chkT (K : PySem.W.Frag) : Sp := fun vs H Q _ => ∃ (v : V) (d : PyData) (a b : Int), vs = [v, .int a, .int b] ∧ Dv K H v d ∧ wV d ≤ 1000000 ∧ ∀ H', Same H H' → Q (.bl (dTxt d a b)) H'
def sp_chkB (K : PySem.W.Frag) : Sp := fun vs H Q _ => ∃ (v : V) (d : PyData) (a b : Int), vs = [v, .int a, .int b] ∧ Dv K H v d ∧ Q (.bl (dBtw d a b)) H
theorem len2 {K : PySem.W.Frag} {H : Hp} {xs : List V} {ds : List PyData} (h : DvAll K H xs ds) (e : xs.length = 2) : ∃ x0 x1 d0 d1, xs = [x0, x1] ∧ ds = [d0, d1] ∧ Dv K H x0 d0 ∧ Dv K H x1 d1 := by
  cases h with
  | nil => cases e
  | cons h0 t =>
    cases t with
    | nil => cases e
    | cons h1 t =>
      cases t with
      | nil => exact ⟨_, _, _, _, rfl, rfl, h0, h1⟩
      | cons _ _ => simp at e
theorem len3 {K : PySem.W.Frag} {H : Hp} {xs : List V} {ds : List PyData} (h : DvAll K H xs ds) (e : xs.length = 3) : ∃ x0 x1 x2 d0 d1 d2, xs = [x0, x1, x2] ∧ ds = [d0, d1, d2] ∧ Dv K H x0 d0 ∧ Dv K H x1 d1 ∧ Dv K H x2 d2 := by
  cases h with
  | nil => cases e
  | cons h0 t =>
    obtain ⟨_, _, _, _, rfl, rfl, h1, h2⟩ := len2 t (by simpa using e)
    exact ⟨_, _, _, _, _, _, rfl, rfl, h0, h1, h2⟩
theorem dField_ne {ds : List PyData} (h : ds.length ≠ 2) : dField (.tuple ds) = false := by
  match ds, h with
  | [], _ => rfl
  | [_], _ => rfl
  | [_, _], h => exact absurd rfl h
  | _ :: _ :: _ :: _, _ => rfl
theorem dSetting_ne {ds : List PyData} (h : ds.length ≠ 3) : dSetting (.tuple ds) = false := by
  match ds, h with
  | [], _ => rfl
  | [_], _ => rfl
  | [_, _], _ => rfl
  | [_, _, _], h => exact absurd rfl h
  | _ :: _ :: _ :: _ :: _, _ => rfl
theorem decI {n m : Nat} : decide (V.int (n : Int) = V.int (m : Int)) = decide (n = m) := by
  rw [decide_eq_decide]
  constructor
  · intro h; injection h with h; omega
  · rintro rfl; rfl
theorem nAt {n m : Nat} (e : decide (V.int (n : Int) = V.int (m : Int)) = true) : n = m := by rw [decI] at e; exact of_decide_eq_true e
theorem nNe {n m : Nat} (e : decide (V.int (n : Int) = V.int (m : Int)) = false) : n ≠ m := by rw [decI] at e; exact of_decide_eq_false e
/-- the weight of an item -/
theorem w_tup {ds : List PyData} {d : PyData} (h : d ∈ ds) {n : Nat} (hw : wV (.tuple ds) ≤ n) : wV d ≤ n := by
  rw [wV] at hw; have := wVAll_mem h; omega
theorem w_lst {ds : List PyData} {d : PyData} (h : d ∈ ds) {n : Nat} (hw : wV (.list ds) ≤ n) : wV d ≤ n := by
  rw [wV] at hw; have := wVAll_mem h; omega
theorem w_tupLen {ds : List PyData} {n : Nat} (hw : wV (.tuple ds) ≤ n) : ds.length ≤ n := by
  rw [wV] at hw; have := wVAll_len ds; omega
theorem w_lstLen {ds : List PyData} {n : Nat} (hw : wV (.list ds) ≤ n) : ds.length ≤ n := by
  rw [wV] at hw; have := wVAll_len ds; omega
/-- a list of truths, one for each item -/
theorem tests_of {K : PySem.W.Frag} {H : Hp} {xs : List V} {ds : List PyData} (f : PyData → Bool) (h : DvAll K H xs ds) : (List.range xs.length).map (fun i => V.bl (f (ds.getD i .none))) = (ds.map f).map V.bl := by
  rw [h.len, List.map_map]
  exact range_map ds (fun c => V.bl (f c)) .none
theorem all_id {ds : List PyData} (f : PyData → Bool) : (ds.map f).all id = ds.all f := by rw [List.all_map]; rfl
theorem inB {b : Bool} (bs : List Bool) : inV (.bl false) (bs.map V.bl) = !bs.all id := by
  unfold inV
  rw [List.any_map]
  induction bs with
  | nil => rfl
  | cons c r ih =>
    rw [List.any_cons, List.all_cons, ih]
    cases c <;> rfl
theorem flatB (bs : List Bool) : (bs.map V.bl).all flatV = true := by
  rw [List.all_map]; exact List.all_eq_true.mpr fun _ _ => rfl
end Fld
/-! data apart from the pen: what is drawn, what is laid new -/
namespace Fld
open PySem PySem.Spec PyProof.Rows L2
/-- the heap but for some objects -/
def OffS (S : List Addr) (H : Hp) : Hp := fun b => if b ∈ S then none else H b
/-- these objects are there -/
def Hid (S : List Addr) (H : Hp) : Prop := ∀ b ∈ S, H b ≠ none
section
variable {K : PySem.W.Frag} {p c q : Addr} {H H' H1 H2 : Hp} {o : HO} {n m : Nat} {S : List Addr}
theorem off_sub (S : List Addr) (H : Hp) : Same (OffS S H) H := fun b u e => by
  unfold OffS at e
  by_cases h : b ∈ S
  · rw [if_pos h] at e; cases e
  · rw [if_neg h] at e; exact e
theorem off_ne {b : Addr} (h : b ∉ S) : OffS S H b = H b := by unfold OffS; rw [if_neg h]
theorem off_get {b : Addr} (h : OffS S H b = some o) : b ∉ S ∧ H b = some o := by
  unfold OffS at h
  by_cases e : b ∈ S
  · rw [if_pos e] at h; cases h
  · rw [if_neg e] at h; exact ⟨e, h⟩
theorem But.off (b : But p H H') (hp : p ∈ S) : Same (OffS S H) (OffS S H') := fun a u e => by
  obtain ⟨n, e⟩ := off_get e
  rw [off_ne n]
  exact b a u (fun z => n (z ▸ hp)) e
theorem _root_.L2.Same.off (s : Same H H') : Same (OffS S H) (OffS S H') := fun a u e => by
  obtain ⟨n, e⟩ := off_get e
  rw [off_ne n]
  exact s a u e
theorem Drew.off (d : Drew p c H H' n) (hp : p ∈ S) : Same (OffS S H) (OffS S H') := d.but.off hp
theorem Dv.on {v : V} {d : PyData} (h : Dv K (OffS S H) v d) : Dv K H v d := h.keep (off_sub S H)
theorem DvAll.on {v : List V} {d : List PyData} (h : DvAll K (OffS S H) v d) : DvAll K H v d := h.keep (off_sub S H)
theorem Hid.keep (h : Hid S H) (s : Same H H') : Hid S H' := fun b hb => by
  cases e : H b with
  | none => exact absurd e (h b hb)
  | some u => rw [s b u e]; exact fun z => nomatch z
theorem Pen.some_ (h : Pen H p c n) : H p ≠ none := by
  obtain ⟨⟨xs, e⟩, _⟩ := h.some
  rw [e]; exact fun z => nomatch z
theorem Hid.drew (h : Hid S H) (d : Drew p c H H' n) : Hid S H' := fun b hb => by
  by_cases z : b = p
  · rw [z]; exact d.pen.some_
  · cases e : H b with
    | none => exact absurd e (h b hb)
    | some u => rw [d.but b u z e]; exact fun z => nomatch z
theorem Hid.one (h : Pen H p c n) : Hid [p] H := fun b hb => by rw [List.mem_singleton.mp hb]; exact h.some_
theorem Hid.nil : Hid [] H := fun b hb => nomatch hb
theorem Hid.cons (h : Hid S H) (hq : H q ≠ none) : Hid (q :: S) H := fun b hb => by
  rcases List.mem_cons.mp hb with rfl | hb
  · exact hq
  · exact h b hb
theorem Hid.not (h : Hid S H) (hq : H q = none) : q ∉ S := fun z => h q z hq
theorem Hid.upd (h : Hid S H) : Hid S (L2.upd H q o) := fun b hb => by
  by_cases z : b = q
  · rw [z, upd_same]; exact fun z => nomatch z
  · rw [upd_ne z]; exact h b hb
/-- a new object is laid beside the hidden ones -/
theorem off_new (hq : H q = none) (hS : Hid S H) : OffS S (upd H q o) q = some o := by rw [off_ne (hS.not hq), upd_same]
theorem new_lst {xs : List V} {ds : List PyData} (hq : H q = none) (hS : Hid S H) (h : DvAll K (OffS S H) xs ds) : Dv K (OffS S (upd H q (.lst xs))) (.ref q) (.list ds) := .lst (SqL.of (off_new hq hS)) (h.keep (Same.new hq).off)
theorem new_tup {xs : List V} {ds : List PyData} (hq : H q = none) (hS : Hid S H) (h : DvAll K (OffS S H) xs ds) : Dv K (OffS S (upd H q (.tup xs))) (.ref q) (.tuple ds) := .tup (SqT.of (off_new hq hS)) (h.keep (Same.new hq).off)
theorem new_dic (hq : H q = none) (hS : Hid S H) : Dv K (OffS S (upd H q (.dK []))) (.ref q) (.dict []) := .dic (off_new hq hS) rfl .nil
theorem at_lst {a : Addr} {xs : List V} {ds : List PyData} (h : H a = some (.lst xs)) (hn : a ∉ S) (d : DvAll K (OffS S H) xs ds) : Dv K (OffS S H) (.ref a) (.list ds) := .lst (SqL.of (by rw [off_ne hn]; exact h)) d
theorem at_tup {a : Addr} {xs : List V} {ds : List PyData} (h : H a = some (.tup xs)) (hn : a ∉ S) (d : DvAll K (OffS S H) xs ds) : Dv K (OffS S H) (.ref a) (.tuple ds) := .tup (SqT.of (by rw [off_ne hn]; exact h)) d
/-- a hidden object turns, and is hidden no more -/
theorem off_put : Same (OffS (q :: S) H) (OffS S (upd H q o)) := fun b u e => by
  obtain ⟨n, e⟩ := off_get e
  have nq : b ≠ q := fun z => n (by rw [z]; exact List.mem_cons_self ..)
  rw [off_ne fun z => n (List.mem_cons_of_mem _ z), upd_ne nq]
  exact e
theorem off_more (hq : H q = none) : Same (OffS S H) (OffS (q :: S) H) := fun b u e => by
  obtain ⟨n, e⟩ := off_get e
  rw [off_ne fun z => ?_]
  · exact e
  · rcases List.mem_cons.mp z with rfl | z
    · rw [hq] at e; cases e
    · exact n z
theorem off_less : Same (OffS (q :: S) H) (OffS S H) := fun b u e => by
  obtain ⟨n, e⟩ := off_get e
  rw [off_ne fun z => n (List.mem_cons_of_mem _ z)]
  exact e
theorem Pen.new (h : Pen H p c n) (hq : H q = none) : Pen (L2.upd H q o) p c n := h.keep (Same.new hq)
theorem DvAll.mem {xs : List V} {ds : List PyData} {x : V} (h : DvAll K H xs ds) (hx : x ∈ xs) : ∃ d ∈ ds, Dv K H x d := by
  obtain ⟨i, hi, rfl⟩ := List.mem_iff_getElem.mp hx
  obtain ⟨d, hd, hv⟩ := h.at (i := i) (x := xs[i]) (by simp)
  exact ⟨d, List.mem_of_getElem? hd, hv⟩
theorem DvAll.of : ∀ {xs : List V}, (∀ x ∈ xs, ∃ d, Dv K H x d) → ∃ ds, DvAll K H xs ds
  | [], _ => ⟨[], .nil⟩
  | x :: xs, h => by
    obtain ⟨d, hd⟩ := h x (List.mem_cons_self ..)
    obtain ⟨ds, hds⟩ := DvAll.of (xs := xs) fun y hy => h y (List.mem_cons_of_mem _ hy)
    exact ⟨d :: ds, .cons hd hds⟩
theorem DvAll.rep {x : V} {d : PyData} (h : Dv K H x d) : ∀ k : Nat, DvAll K H (List.replicate k x) (List.replicate k d)
  | 0 => .nil
  | k + 1 => .cons h (DvAll.rep h k)
end
/-- data that is small: at most d deep, at most b of weight -/
structure Sz (b k : Nat) (d : PyData) : Prop where
  ok : okV d = true
  w : wV d ≤ b
  dp : d.depth ≤ k
theorem Sz.mono {b k b' k' : Nat} {d : PyData} (h : Sz b k d) (l1 : b ≤ b') (l2 : k ≤ k') : Sz b' k' d := ⟨h.ok, Nat.le_trans h.w l1, Nat.le_trans h.dp l2⟩
theorem depthAll_le {k : Nat} : ∀ {ds : List PyData}, (∀ d ∈ ds, d.depth ≤ k) → PyData.depthAll ds ≤ k
  | [], _ => by rw [PyData.depthAll]; omega
  | d :: ds, h => by
    rw [PyData.depthAll]
    have h1 := h d (List.mem_cons_self ..)
    have h2 := depthAll_le (ds := ds) fun e he => h e (List.mem_cons_of_mem _ he)
    omega
theorem depthAll_mem : ∀ {ds : List PyData} {d : PyData}, d ∈ ds → d.depth ≤ PyData.depthAll ds
  | e :: ds, d, h => by
    rw [PyData.depthAll]
    rcases List.mem_cons.mp h with rfl | h
    · omega
    · have := depthAll_mem h; omega
def SzAll (k : Nat) (ds : List PyData) : Prop := okVAll ds = true ∧ PyData.depthAll ds ≤ k
theorem sz_tup {b k : Nat} {ds : List PyData} (h : Sz b (k + 1) (.tuple ds)) : okVAll ds = true ∧ wVAll ds + 4 ≤ b ∧ PyData.depthAll ds ≤ k := by
  obtain ⟨h1, h2, h3⟩ := h
  rw [okV] at h1
  rw [wV] at h2
  rw [PyData.depth] at h3
  exact ⟨h1, h2, by omega⟩
theorem sz_lst {b k : Nat} {ds : List PyData} (h : Sz b (k + 1) (.list ds)) : okVAll ds = true ∧ wVAll ds + 4 ≤ b ∧ PyData.depthAll ds ≤ k := by
  obtain ⟨h1, h2, h3⟩ := h
  rw [okV] at h1
  rw [wV] at h2
  rw [PyData.depth] at h3
  exact ⟨h1, h2, by omega⟩
theorem sz_tup' {b k : Nat} {ds : List PyData} (h1 : okVAll ds = true) (h2 : wVAll ds + 4 ≤ b) (h3 : PyData.depthAll ds ≤ k) : Sz b (k + 1) (.tuple ds) := ⟨by rw [okV]; exact h1, by rw [wV]; exact h2, by rw [PyData.depth]; omega⟩
theorem sz_lst' {b k : Nat} {ds : List PyData} (h1 : okVAll ds = true) (h2 : wVAll ds + 4 ≤ b) (h3 : PyData.depthAll ds ≤ k) : Sz b (k + 1) (.list ds) := ⟨by rw [okV]; exact h1, by rw [wV]; exact h2, by rw [PyData.depth]; omega⟩
theorem sz_str {x : Str} {b : Nat} (h : x.cps.toList.all (fun c => decide (c < 4294967296)) = true) (hb : 10 * x.length + 2 ≤ b) : Sz b 0 (.str x) := ⟨h, by rw [wV]; exact hb, by rw [PyData.depth]; omega⟩
theorem chars_small {x : Str} (h : x.cps.toList.all isChar = true) : x.cps.toList.all (fun c => decide (c < 4294967296)) = true := by
  rw [List.all_eq_true] at h ⊢
  intro c hc
  have h1 : charCodes.all (fun c => decide (c < 4294967296)) = true := by decide
  exact List.all_eq_true.mp h1 c (List.contains_iff_mem.mp (h c hc))
theorem sz_txt {x : Str} {a : Int} {b : Nat} (h : txt (.str x) a (b : Nat) = true) : Sz (10 * b + 2) 0 (.str x) := by
  have h2 := txt_all h
  have h' : (decide (a ≤ (x.length : Int)) && decide ((x.length : Int) ≤ (b : Nat)) && x.cps.toList.all isChar) = true := h
  simp only [Bool.and_eq_true, decide_eq_true_eq] at h'
  exact sz_str (chars_small h2) (by omega)
theorem sz_int {i : Int} (h : i.natAbs < 2 ^ 1000 := by decide +kernel) : Sz 1010 0 (.int i) := ⟨decide_eq_true h, Nat.le_refl _, by rw [PyData.depth]; omega⟩
/-! ### what a draw of any data promises -/
/-- k draws at most; data of weight b at most, d deep at most -/
def sp_drawV (K : PySem.W.Frag) (k b e : Nat) (f : PyData → Prop) : Sp := fun vs H Q _ => ∃ (p c : Addr) (n : Nat) (S : List Addr), vs = [.ref p] ∧ Pen H p c n ∧ n ≤ 700000 ∧ p ∈ S ∧ Hid S H ∧
  ∀ (v : V) (d : PyData) H', Dv K (OffS S H') v d → Sz b e d → f d → Drew p c H H' (n + k) → Q v H'
/-- one of a text's signs -/
def sp_one_str : Sp := fun vs H Q _ => ∃ (p c : Addr) (n : Nat) (z : Str), vs = [.ref p, .str z] ∧ Pen H p c n ∧ 0 < z.length ∧ z.length ≤ 1000 ∧ n ≤ 900000 ∧ ∀ (x : Nat) H', x ∈ z.cps.toList → Drew p c H H' (n + 1) → Q (.str ⟨#[x]⟩) H'
def otherSigns : Str := "!#$&'()*+,<>?@ABCDEFGHIJKLMNOPQRSTUVWXYZ[]^_`{|}~\"\\"
theorem other_small : otherSigns.cps.toList.all (fun c => decide (c < 4294967296)) = true := by decide +kernel
theorem small_app {x y : Str} (hx : x.cps.toList.all (fun c => decide (c < 4294967296)) = true) (hy : y.cps.toList.all (fun c => decide (c < 4294967296)) = true) : (x ++ y).cps.toList.all (fun c => decide (c < 4294967296)) = true := by
  have e : (x ++ y).cps.toList = x.cps.toList ++ y.cps.toList := by
    show (x.cps ++ y.cps).toList = _
    simp
  rw [e, List.all_append, hx, hy]; rfl
theorem small_cut {x : Str} {a b : Option Int} (hx : x.cps.toList.all (fun c => decide (c < 4294967296)) = true) : (cutS x a b).cps.toList.all (fun c => decide (c < 4294967296)) = true := by
  rw [List.all_eq_true] at hx ⊢
  intro c hc
  unfold cutS at hc
  exact hx c (List.mem_of_mem_drop (List.mem_of_mem_take hc))
theorem cutS_len (x : Str) (a b : Option Int) : (cutS x a b).length ≤ x.length := by
  unfold cutS
  show ((x.cps.toList.drop _).take _).toArray.size ≤ x.cps.size
  simp only [List.size_toArray, List.length_take, List.length_drop, Array.length_toList]
  omega
end Fld
namespace Fld
open PySem PySem.Spec PyProof.Rows L2
/-- a value with one part changed, or another: no more than one deeper, at most twice the weight -/
def sp_bent (K : PySem.W.Frag) (M : Nat) : Sp := fun vs H Q _ => ∃ (p c : Addr) (n : Nat) (v : V) (d : PyData) (b e : Nat) (S : List Addr), vs = [.ref p, v] ∧ Pen H p c n ∧ n + 100 * (e + 1) ≤ 600000 ∧ p ∈ S ∧ Hid S H ∧ Dv K (OffS S H) v d ∧ Sz b e d ∧ e ≤ M ∧ M ≤ 20 ∧ b ≤ 100000 ∧
  ∀ (v' : V) (d' : PyData) H', Dv K (OffS S H') v' d' → Sz (2 * b + 2000) (e + 1) d' → Drew p c H H' (n + 100 * (e + 1)) → Q v' H'
def sp_bent_sub (K : PySem.W.Frag) : Nat → Sp
  | 0 => fun _ _ _ _ => False
  | m + 1 => sp_bent K m
theorem wVAll_set : ∀ {ds : List PyData} {i : Nat} {d e : PyData}, ds[i]? = some d → wVAll (ds.set i e) + wV d = wVAll ds + wV e
  | [], _, _, _, h => by simp at h
  | x :: xs, 0, d, e, h => by
    simp at h; subst h
    rw [List.set_cons_zero, wVAll, wVAll]
    omega
  | x :: xs, i + 1, d, e, h => by
    have := wVAll_set (ds := xs) (i := i) (d := d) (e := e) (by simpa using h)
    rw [List.set_cons_succ, wVAll, wVAll]; omega
theorem okVAll_set {ds : List PyData} {i : Nat} {e : PyData} (h : okVAll ds = true) (he : okV e = true) : okVAll (ds.set i e) = true := by
  refine okVAll_of fun d hd => ?_
  rcases List.mem_or_eq_of_mem_set hd with h1 | rfl
  · exact okVAll_mem h h1
  · exact he
theorem depthAll_set {k : Nat} {ds : List PyData} {i : Nat} {e : PyData} (h : PyData.depthAll ds ≤ k) (he : e.depth ≤ k) : PyData.depthAll (ds.set i e) ≤ k := by
  refine depthAll_le fun d hd => ?_
  rcases List.mem_or_eq_of_mem_set hd with h1 | rfl
  · exact Nat.le_trans (depthAll_mem h1) h
  · exact he
theorem wVAll_erase : ∀ (ds : List PyData) (i : Nat), wVAll (ds.eraseIdx i) ≤ wVAll ds
  | [], _ => Nat.le_refl _
  | x :: xs, 0 => by rw [List.eraseIdx_cons_zero, wVAll]; omega
  | x :: xs, i + 1 => by have := wVAll_erase xs i; rw [List.eraseIdx_cons_succ, wVAll, wVAll]; omega
theorem DvAll.erase {K : PySem.W.Frag} {H : Hp} : ∀ {xs : List V} {ds : List PyData} (i : Nat), DvAll K H xs ds → DvAll K H (xs.eraseIdx i) (ds.eraseIdx i)
  | _, _, _, .nil => .nil
  | _, _, 0, .cons _ t => t
  | _, _, i + 1, .cons q t => .cons q (DvAll.erase i t)
theorem okVAll_erase {ds : List PyData} {i : Nat} (h : okVAll ds = true) : okVAll (ds.eraseIdx i) = true := okVAll_of fun d hd => okVAll_mem h (List.mem_of_mem_eraseIdx hd)
theorem depthAll_erase {k : Nat} {ds : List PyData} {i : Nat} (h : PyData.depthAll ds ≤ k) : PyData.depthAll (ds.eraseIdx i) ≤ k := depthAll_le fun d hd => Nat.le_trans (depthAll_mem (List.mem_of_mem_eraseIdx hd)) h
def insD (ds : List PyData) (i : Nat) (d : PyData) : List PyData := ds.take i ++ [d] ++ ds.drop i
theorem wVAll_ins (ds : List PyData) (i : Nat) (d : PyData) : wVAll (insD ds i d) = wVAll ds + wV d + 2 := by
  unfold insD
  rw [wVAll_app, wVAll_app]
  have e : wVAll ds = wVAll (ds.take i) + wVAll (ds.drop i) := by rw [← wVAll_app, List.take_append_drop]
  have e2 : wVAll [d] = wV d + 2 := by rw [wVAll, wVAll]
  omega
theorem ins_mem {ds : List PyData} {i : Nat} {d x : PyData} (h : x ∈ insD ds i d) : x ∈ ds ∨ x = d := by
  unfold insD at h
  rcases List.mem_append.mp h with h | h
  · rcases List.mem_append.mp h with h | h
    · exact .inl (List.mem_of_mem_take h)
    · exact .inr (List.mem_singleton.mp h)
  · exact .inl (List.mem_of_mem_drop h)
theorem okVAll_ins {ds : List PyData} {i : Nat} {d : PyData} (h : okVAll ds = true) (hd : okV d = true) : okVAll (insD ds i d) = true := okVAll_of fun x hx => by
  rcases ins_mem hx with h1 | rfl
  · exact okVAll_mem h h1
  · exact hd
theorem depthAll_ins {k : Nat} {ds : List PyData} {i : Nat} {d : PyData} (h : PyData.depthAll ds ≤ k) (hd : d.depth ≤ k) : PyData.depthAll (insD ds i d) ≤ k := depthAll_le fun x hx => by
  rcases ins_mem hx with h1 | rfl
  · exact Nat.le_trans (depthAll_mem h1) h
  · exact hd
theorem DvAll.ins {K : PySem.W.Frag} {H : Hp} {xs : List V} {ds : List PyData} {x : V} {d : PyData} (i : Nat) (h : DvAll K H xs ds) (hx : Dv K H x d) : DvAll K H (xs.take i ++ [x] ++ xs.drop i) (insD ds i d) := ((h.take i).app (.cons hx .nil)).app (h.drop i)
theorem depth0 {d : PyData} (h : d.depth ≤ 0) : isTup d = false ∧ isLst d = false := by
  cases d with
  | list l => rw [PyData.depth] at h; omega
  | tuple l => rw [PyData.depth] at h; omega
  | _ => exact ⟨rfl, rfl⟩
end Fld
namespace Fld
open PySem PySem.Spec PyProof.Rows L2
theorem with_leaf {G : Prop} {R : Hp → Prop} (Body : Hp → Prop) (h : ∀ H1, R H1 → Body H1) (m : (∀ H1, R H1 → Body H1) → G) : G := m h
/-- a tuple or a list, its items -/
theorem Dv.seqs {K : PySem.W.Frag} {H : Hp} {v : V} {d : PyData} (h : Dv K H v d) (e : (subT (tyD d) "tuple" || subT (tyD d) "list") = true) :
    ∃ a xs ds, v = .ref a ∧ ((SqT K H a xs ∧ d = .tuple ds) ∨ (SqL K H a xs ∧ d = .list ds)) ∧ DvAll K H xs ds := by
  rw [sub_tup, sub_lst] at e
  cases h <;> first | cases e | skip
  · rename_i hs ha
    exact ⟨_, _, _, rfl, .inr ⟨hs, rfl⟩, ha⟩
  · rename_i hs ha
    exact ⟨_, _, _, rfl, .inl ⟨hs, rfl⟩, ha⟩
theorem seq_len {K : PySem.W.Frag} {H : Hp} {a : Addr} {xs : List V} {P Q : Prop} (h : (SqT K H a xs ∧ P) ∨ (SqL K H a xs ∧ Q)) : LenV K (.ref a) H xs.length := by
  rcases h with h | h
  · exact .inr ⟨_, h.1, rfl⟩
  · exact .inl ⟨_, h.1, rfl⟩
theorem ixN_n {n i : Nat} (h : i < n) : ixN n (i : Int) = some i := Evl.ixN_nat h
end Fld
namespace Fld
open PySem PySem.Spec PyProof.Rows L2
section
variable {K : PySem.W.Frag} {p c q D : Addr} {H H' H1 H2 Ha H4 : Hp} {o : HO} {n m k b e : Nat} {S : List Addr} {f : PyData → Prop}
theorem off_hid (h : q ∈ S) : Same (OffS S H) (OffS S (upd H q o)) := fun a u e => by
  obtain ⟨n, e⟩ := off_get e
  have na : a ≠ q := fun z => n (by rw [z]; exact h)
  rw [off_ne n, upd_ne na]
  exact e
/-- a list of drawn data under way at D -/
structure LcI (K : PySem.W.Frag) (p c D : Addr) (S : List Addr) (Ha : Hp) (n k b e : Nat) (f : PyData → Prop) (i : Nat) (ys : List V) (H' : Hp) : Prop where
  drew : Drew p c Ha H' (n + k * i)
  ex : ∃ ds, DvAll K (OffS (D :: S) H') ys ds ∧ ∀ d ∈ ds, Sz b e d ∧ f d
theorem LcI.start (hp : Pen Ha p c n) (hD : Ha D = none) : LcI K p c D S Ha n k b e f 0 [] (upd Ha D (.lst [])) :=
  ⟨⟨(hp.new hD).mono (by omega), But.new hD⟩, [], .nil, fun d hd => nomatch hd⟩
theorem LcI.step {i : Nat} {ys : List V} {v : V} {d : PyData} (I : LcI K p c D S Ha n k b e f i ys H') (hp : Pen Ha p c n) (pS : p ∈ S) (hD : Ha D = none) (g : H' D = some (.lst ys)) (hv : Dv K (OffS (D :: S) H4) v d) (hz : Sz b e d) (hf : f d) (h4 : Drew p c H' H4 (n + k * i + k)) :
    H4 D = some (.lst ys) ∧ LcI K p c D S Ha n k b e f (i + 1) (ys ++ [v]) (upd H4 D (.lst (ys ++ [v]))) := by
  have nD : D ≠ p := fun z => hp.some_ (z ▸ hD)
  have nC : c ≠ D := hp.nec hD
  obtain ⟨ds, hds, ha⟩ := I.ex
  refine ⟨h4.but _ _ nD g, ⟨⟨(h4.pen.upd (fun z => nD z.symm) nC).mono (by rw [Nat.mul_succ]; omega), (I.drew.but.trans h4.but).put hD⟩, ds ++ [d], ?_, ?_⟩⟩
  · exact (((hds.keep (h4.off (List.mem_cons_of_mem _ pS))).app (.cons hv .nil))).keep (off_hid (List.mem_cons_self ..))
  · intro x hx
    rcases List.mem_append.mp hx with h | h
    · exact ha x h
    · rw [List.mem_singleton.mp h]; exact ⟨hz, hf⟩
end
theorem any_of {K : PySem.W.Frag} {H : Hp} {v : V} {d : PyData} {Y : List V → Prop} {N : Prop} (h : Dv K H v d) (hw : wV d ≤ 1000000) (y : ∀ xs, octV xs = dOctets d → Y xs) (n : dOctets d = false → N) : AnyL K H v Y N := by
  cases c : subT (tyD d) "list" with
  | true =>
    obtain ⟨a, xs, ds, rfl, rfl, hs, ha⟩ := h.asL c
    refine .inl ⟨a, xs, rfl, hs, by have := w_lstLen hw; have := ha.len; omega, fun x hx => ?_, y xs ?_⟩
    · obtain ⟨e, _, he⟩ := ha.mem hx
      exact ⟨_, he.kind⟩
    · clear hs hw c y n h
      show (xs.all fun x => btw x 0 255) = ds.all fun d => dBtw d 0 255
      induction ds generalizing xs with
      | nil => cases ha; rfl
      | cons d ds ih =>
        cases ha with
        | cons h1 h2 => rw [List.all_cons, List.all_cons, ih _ h2, h1.btw]
  | false =>
    refine .inr ⟨_, h.kind, ?_, n (dOctets_no c)⟩
    unfold subT at c
    exact (Bool.or_eq_false_iff.mp c).1
end Fld
namespace Fld
open PySem PySem.Spec PyProof.Rows L2
/-! ### the text by places -/
def top (i : Nat) : Stmt := PySem.Challenge.pw_fieldtable_k03_fields_and_settings_recog.main.body.getD i (.Pass ⟨0, 0, 0, 0⟩)
abbrev s_is_between : Stmt := top 8
abbrev s_is_text : Stmt := top 9
abbrev s_is_name : Stmt := top 10
abbrev s_is_value : Stmt := top 11
abbrev s_is_field : Stmt := top 12
abbrev s_is_tuple_of_fields : Stmt := top 13
abbrev s_are_fields : Stmt := top 14
abbrev s_is_setting : Stmt := top 15
abbrev s_are_octets : Stmt := top 16
abbrev s_law_open : Stmt := top 18
abbrev s_law_spread : Stmt := top 19
abbrev s_law_take : Stmt := top 20
abbrev s_law_same : Stmt := top 21
abbrev s_law_one_of : Stmt := top 22
abbrev s_law_between : Stmt := top 23
abbrev s_law_signs : Stmt := top 24
abbrev s_law_is_text : Stmt := top 25
abbrev s_law_draw_text : Stmt := top 26
abbrev s_law_is_field : Stmt := top 27
abbrev s_law_wrong_text : Stmt := top 28
abbrev s_law_is_setting : Stmt := top 29
abbrev s_law_are_fields : Stmt := top 30
abbrev s_law_are_octets : Stmt := top 31
abbrev s_law_draw_field : Stmt := top 32
abbrev s_law_bent : Stmt := top 33
abbrev s_law : Stmt := top 34
/-- what the top has written -/
structure Txt (K : PySem.W.Frag) (mg : Str → Option Value) where
  f_is_between : Addr
  d_is_between : FuncData
  F_is_between : Fun K "is_between" "is_between" s_is_between f_is_between d_is_between
  b_is_between : Binds K d_is_between ["thing", "least", "most"] []
  g_is_between : mg "is_between" = some (.ref f_is_between)
  f_is_text : Addr
  d_is_text : FuncData
  F_is_text : Fun K "is_text" "is_text" s_is_text f_is_text d_is_text
  b_is_text : Binds K d_is_text ["thing", "least", "most"] []
  g_is_text : mg "is_text" = some (.ref f_is_text)
  f_is_name : Addr
  d_is_name : FuncData
  F_is_name : Fun K "is_name" "is_name" s_is_name f_is_name d_is_name
  b_is_name : Binds K d_is_name ["thing"] []
  g_is_name : mg "is_name" = some (.ref f_is_name)
  f_is_value : Addr
  d_is_value : FuncData
  F_is_value : Fun K "is_value" "is_value" s_is_value f_is_value d_is_value
  b_is_value : Binds K d_is_value ["thing"] []
  g_is_value : mg "is_value" = some (.ref f_is_value)
  f_is_field : Addr
  d_is_field : FuncData
  F_is_field : Fun K "is_field" "is_field" s_is_field f_is_field d_is_field
  b_is_field : Binds K d_is_field ["thing"] []
  g_is_field : mg "is_field" = some (.ref f_is_field)
  f_is_tuple_of_fields : Addr
  d_is_tuple_of_fields : FuncData
  F_is_tuple_of_fields : Fun K "is_tuple_of_fields" "is_tuple_of_fields" s_is_tuple_of_fields f_is_tuple_of_fields d_is_tuple_of_fields
  b_is_tuple_of_fields : Binds K d_is_tuple_of_fields ["thing", "most"] []
  g_is_tuple_of_fields : mg "is_tuple_of_fields" = some (.ref f_is_tuple_of_fields)
  f_are_fields : Addr
  d_are_fields : FuncData
  F_are_fields : Fun K "are_fields" "are_fields" s_are_fields f_are_fields d_are_fields
  b_are_fields : Binds K d_are_fields ["thing"] []
  g_are_fields : mg "are_fields" = some (.ref f_are_fields)
  f_is_setting : Addr
  d_is_setting : FuncData
  F_is_setting : Fun K "is_setting" "is_setting" s_is_setting f_is_setting d_is_setting
  b_is_setting : Binds K d_is_setting ["thing"] []
  g_is_setting : mg "is_setting" = some (.ref f_is_setting)
  f_are_octets : Addr
  d_are_octets : FuncData
  F_are_octets : Fun K "are_octets" "are_octets" s_are_octets f_are_octets d_are_octets
  b_are_octets : Binds K d_are_octets ["thing"] []
  g_are_octets : mg "are_octets" = some (.ref f_are_octets)
  f_law_open : Addr
  d_law_open : FuncData
  F_law_open : Fun K "_law_open" "_law_open" s_law_open f_law_open d_law_open
  b_law_open : Binds K d_law_open ["script"] []
  g_law_open : mg "_law_open" = some (.ref f_law_open)
  f_law_spread : Addr
  d_law_spread : FuncData
  F_law_spread : Fun K "_law_spread" "_law_spread" s_law_spread f_law_spread d_law_spread
  b_law_spread : Binds K d_law_spread ["cell", "at"] []
  g_law_spread : mg "_law_spread" = some (.ref f_law_spread)
  f_law_take : Addr
  d_law_take : FuncData
  F_law_take : Fun K "_law_take" "_law_take" s_law_take f_law_take d_law_take
  b_law_take : Binds K d_law_take ["pen", "amount"] []
  g_law_take : mg "_law_take" = some (.ref f_law_take)
  f_law_same : Addr
  d_law_same : FuncData
  F_law_same : Fun K "_law_same" "_law_same" s_law_same f_law_same d_law_same
  b_law_same : Binds K d_law_same ["found", "due"] []
  g_law_same : mg "_law_same" = some (.ref f_law_same)
  f_law_one_of : Addr
  d_law_one_of : FuncData
  F_law_one_of : Fun K "_law_one_of" "_law_one_of" s_law_one_of f_law_one_of d_law_one_of
  b_law_one_of : Binds K d_law_one_of ["pen", "some"] []
  g_law_one_of : mg "_law_one_of" = some (.ref f_law_one_of)
  f_law_between : Addr
  d_law_between : FuncData
  F_law_between : Fun K "_law_between" "_law_between" s_law_between f_law_between d_law_between
  b_law_between : Binds K d_law_between ["value", "low", "high"] []
  g_law_between : mg "_law_between" = some (.ref f_law_between)
  f_law_signs : Addr
  d_law_signs : FuncData
  F_law_signs : Fun K "_law_signs" "_law_signs" s_law_signs f_law_signs d_law_signs
  b_law_signs : Binds K d_law_signs [] []
  g_law_signs : mg "_law_signs" = some (.ref f_law_signs)
  f_law_is_text : Addr
  d_law_is_text : FuncData
  F_law_is_text : Fun K "_law_is_text" "_law_is_text" s_law_is_text f_law_is_text d_law_is_text
  b_law_is_text : Binds K d_law_is_text ["value", "least", "most"] []
  g_law_is_text : mg "_law_is_text" = some (.ref f_law_is_text)
  f_law_draw_text : Addr
  d_law_draw_text : FuncData
  F_law_draw_text : Fun K "_law_draw_text" "_law_draw_text" s_law_draw_text f_law_draw_text d_law_draw_text
  b_law_draw_text : Binds K d_law_draw_text ["pen", "least", "most"] []
  g_law_draw_text : mg "_law_draw_text" = some (.ref f_law_draw_text)
  f_law_is_field : Addr
  d_law_is_field : FuncData
  F_law_is_field : Fun K "_law_is_field" "_law_is_field" s_law_is_field f_law_is_field d_law_is_field
  b_law_is_field : Binds K d_law_is_field ["value"] []
  g_law_is_field : mg "_law_is_field" = some (.ref f_law_is_field)
  f_law_wrong_text : Addr
  d_law_wrong_text : FuncData
  F_law_wrong_text : Fun K "_law_wrong_text" "_law_wrong_text" s_law_wrong_text f_law_wrong_text d_law_wrong_text
  b_law_wrong_text : Binds K d_law_wrong_text ["pen"] []
  g_law_wrong_text : mg "_law_wrong_text" = some (.ref f_law_wrong_text)
  f_law_is_setting : Addr
  d_law_is_setting : FuncData
  F_law_is_setting : Fun K "_law_is_setting" "_law_is_setting" s_law_is_setting f_law_is_setting d_law_is_setting
  b_law_is_setting : Binds K d_law_is_setting ["value"] []
  g_law_is_setting : mg "_law_is_setting" = some (.ref f_law_is_setting)
  f_law_are_fields : Addr
  d_law_are_fields : FuncData
  F_law_are_fields : Fun K "_law_are_fields" "_law_are_fields" s_law_are_fields f_law_are_fields d_law_are_fields
  b_law_are_fields : Binds K d_law_are_fields ["value"] []
  g_law_are_fields : mg "_law_are_fields" = some (.ref f_law_are_fields)
  f_law_are_octets : Addr
  d_law_are_octets : FuncData
  F_law_are_octets : Fun K "_law_are_octets" "_law_are_octets" s_law_are_octets f_law_are_octets d_law_are_octets
  b_law_are_octets : Binds K d_law_are_octets ["value"] []
  g_law_are_octets : mg "_law_are_octets" = some (.ref f_law_are_octets)
  f_law_draw_field : Addr
  d_law_draw_field : FuncData
  F_law_draw_field : Fun K "_law_draw_field" "_law_draw_field" s_law_draw_field f_law_draw_field d_law_draw_field
  b_law_draw_field : Binds K d_law_draw_field ["pen"] []
  g_law_draw_field : mg "_law_draw_field" = some (.ref f_law_draw_field)
  f_law_bent : Addr
  d_law_bent : FuncData
  F_law_bent : Fun K "_law_bent" "_law_bent" s_law_bent f_law_bent d_law_bent
  b_law_bent : Binds K d_law_bent ["pen", "value"] []
  g_law_bent : mg "_law_bent" = some (.ref f_law_bent)
  f_law : Addr
  d_law : FuncData
  F_law : Fun K "law" "law" s_law f_law d_law
  b_law : Binds K d_law ["script"] []
  g_law : mg "law" = some (.ref f_law)
  t_NAME_MOST : Tok
  g_NAME_MOST : mg "NAME_MOST" = some (.int 20 t_NAME_MOST)
  t_VALUE_MOST : Tok
  g_VALUE_MOST : mg "VALUE_MOST" = some (.int 40 t_VALUE_MOST)
  t_FIELDS_MOST : Tok
  g_FIELDS_MOST : mg "FIELDS_MOST" = some (.int 16 t_FIELDS_MOST)
  t_FIXED_MOST : Tok
  g_FIXED_MOST : mg "FIXED_MOST" = some (.int 12 t_FIXED_MOST)
  t_ROOM_MOST : Tok
  g_ROOM_MOST : mg "ROOM_MOST" = some (.int 120 t_ROOM_MOST)
  t_WAITING_MOST : Tok
  g_WAITING_MOST : mg "WAITING_MOST" = some (.int 4 t_WAITING_MOST)
  a_CHARACTERS : Addr
  g_CHARACTERS : mg "CHARACTERS" = some (.ref a_CHARACTERS)
  CHARACTERS_d : IDict K a_CHARACTERS chars
  z_all : mg "all" = none
  z_bool : mg "bool" = none
  z_enumerate : mg "enumerate" = none
  z_int : mg "int" = none
  z_isinstance : mg "isinstance" = none
  z_len : mg "len" = none
  z_list : mg "list" = none
  z_max : mg "max" = none
  z_min : mg "min" = none
  z_ord : mg "ord" = none
  z_range : mg "range" = none
  z_repr : mg "repr" = none
  z_str : mg "str" = none
  z_tuple : mg "tuple" = none
  z_zip : mg "zip" = none
theorem sc_is_between : FnScope ["thing", "least", "most"] ["thing", "least", "most"] (defScope s_is_between) := ⟨rfl, rfl, rfl, by decide +kernel, rfl, by decide +kernel, by decide +kernel⟩
theorem sc_is_text : FnScope ["thing", "least", "most", "character"] ["thing", "least", "most"] (defScope s_is_text) := ⟨rfl, rfl, rfl, by decide +kernel, rfl, by decide +kernel, by decide +kernel⟩
theorem sc_is_name : FnScope ["thing"] ["thing"] (defScope s_is_name) := ⟨rfl, rfl, rfl, by decide +kernel, rfl, by decide +kernel, by decide +kernel⟩
theorem sc_is_value : FnScope ["thing"] ["thing"] (defScope s_is_value) := ⟨rfl, rfl, rfl, by decide +kernel, rfl, by decide +kernel, by decide +kernel⟩
theorem sc_is_field : FnScope ["thing"] ["thing"] (defScope s_is_field) := ⟨rfl, rfl, rfl, by decide +kernel, rfl, by decide +kernel, by decide +kernel⟩
theorem sc_is_tuple_of_fields : FnScope ["thing", "most", "field"] ["thing", "most"] (defScope s_is_tuple_of_fields) := ⟨rfl, rfl, rfl, by decide +kernel, rfl, by decide +kernel, by decide +kernel⟩
theorem sc_are_fields : FnScope ["thing"] ["thing"] (defScope s_are_fields) := ⟨rfl, rfl, rfl, by decide +kernel, rfl, by decide +kernel, by decide +kernel⟩
theorem sc_is_setting : FnScope ["thing", "fixed", "room", "waiting"] ["thing"] (defScope s_is_setting) := ⟨rfl, rfl, rfl, by decide +kernel, rfl, by decide +kernel, by decide +kernel⟩
theorem sc_are_octets : FnScope ["thing", "octet"] ["thing"] (defScope s_are_octets) := ⟨rfl, rfl, rfl, by decide +kernel, rfl, by decide +kernel, by decide +kernel⟩
theorem sc_law_open : FnScope ["script", "cells", "k", "cell"] ["script"] (defScope s_law_open) := ⟨rfl, rfl, rfl, by decide +kernel, rfl, by decide +kernel, by decide +kernel⟩
theorem sc_law_spread : FnScope ["cell", "at", "primes", "one", "two", "three"] ["cell", "at"] (defScope s_law_spread) := ⟨rfl, rfl, rfl, by decide +kernel, rfl, by decide +kernel, by decide +kernel⟩
theorem sc_law_take : FnScope ["pen", "amount", "at", "cell", "found"] ["pen", "amount"] (defScope s_law_take) := ⟨rfl, rfl, rfl, by decide +kernel, rfl, by decide +kernel, by decide +kernel⟩
theorem sc_law_same : FnScope ["found", "due", "one", "other"] ["found", "due"] (defScope s_law_same) := ⟨rfl, rfl, rfl, by decide +kernel, rfl, by decide +kernel, by decide +kernel⟩
theorem sc_law_one_of : FnScope ["pen", "some"] ["pen", "some"] (defScope s_law_one_of) := ⟨rfl, rfl, rfl, by decide +kernel, rfl, by decide +kernel, by decide +kernel⟩
theorem sc_law_between : FnScope ["value", "low", "high"] ["value", "low", "high"] (defScope s_law_between) := ⟨rfl, rfl, rfl, by decide +kernel, rfl, by decide +kernel, by decide +kernel⟩
theorem sc_law_signs : FnScope [] [] (defScope s_law_signs) := ⟨rfl, rfl, rfl, by decide +kernel, rfl, by decide +kernel, by decide +kernel⟩
theorem sc_law_is_text : FnScope ["value", "least", "most", "sign"] ["value", "least", "most"] (defScope s_law_is_text) := ⟨rfl, rfl, rfl, by decide +kernel, rfl, by decide +kernel, by decide +kernel⟩
theorem sc_law_draw_text : FnScope ["pen", "least", "most", "size", "k"] ["pen", "least", "most"] (defScope s_law_draw_text) := ⟨rfl, rfl, rfl, by decide +kernel, rfl, by decide +kernel, by decide +kernel⟩
theorem sc_law_is_field : FnScope ["value"] ["value"] (defScope s_law_is_field) := ⟨rfl, rfl, rfl, by decide +kernel, rfl, by decide +kernel, by decide +kernel⟩
theorem sc_law_wrong_text : FnScope ["pen", "some", "others", "good", "spot", "bad"] ["pen"] (defScope s_law_wrong_text) := ⟨rfl, rfl, rfl, by decide +kernel, rfl, by decide +kernel, by decide +kernel⟩
theorem sc_law_is_setting : FnScope ["value", "one"] ["value"] (defScope s_law_is_setting) := ⟨rfl, rfl, rfl, by decide +kernel, rfl, by decide +kernel, by decide +kernel⟩
theorem sc_law_are_fields : FnScope ["value", "one"] ["value"] (defScope s_law_are_fields) := ⟨rfl, rfl, rfl, by decide +kernel, rfl, by decide +kernel, by decide +kernel⟩
theorem sc_law_are_octets : FnScope ["value", "one"] ["value"] (defScope s_law_are_octets) := ⟨rfl, rfl, rfl, by decide +kernel, rfl, by decide +kernel, by decide +kernel⟩
theorem sc_law_draw_field : FnScope ["pen"] ["pen"] (defScope s_law_draw_field) := ⟨rfl, rfl, rfl, by decide +kernel, rfl, by decide +kernel, by decide +kernel⟩
theorem sc_law_bent : FnScope ["pen", "value", "some", "k", "way", "row"] ["pen", "value"] (defScope s_law_bent) := ⟨rfl, rfl, rfl, by decide +kernel, rfl, by decide +kernel, by decide +kernel⟩
theorem sc_law : FnScope ["script", "pen", "turn", "fields", "again", "setting", "octets", "base", "value", "seen", "told", "due"] ["script"] (defScope s_law) := ⟨rfl, rfl, rfl, by decide +kernel, rfl, by decide +kernel, by decide +kernel⟩
section
variable {P : Program} {w : World} {K : PySem.W.Frag} {mg : Str → Option Value} {base : Heap}
theorem ok_is_between (T : Txt K mg) : FnOk P w K mg base CX0 1 T.f_is_between T.d_is_between ["thing", "least", "most"] (sp_is_between K) := by
  refine T.F_is_between.ok sc_is_between (fun vs H Q E h => ?_) (fun cdv A outer s H vs Q E hr h => ?_)
  · obtain ⟨v, t, a, b, rfl, _⟩ := h
    rfl
  · obtain ⟨v, t, a, b, rfl, k, q⟩ := h
    refine ⟨_, (pss_one (ps_ret (pe_and (pe_callB call_isi rfl T.z_isinstance boot_isinstance (pa_cons (pv 0) (pa_cons (pe_bltn (v := .ty "int") rfl T.z_int boot_int rfl) pa_nil))) (pe_and (pe_not (pe_callB call_isi rfl T.z_isinstance boot_isinstance (pa_cons (pv 0) (pa_cons (pe_bltn (v := .ty "bool") rfl T.z_bool boot_bool rfl) pa_nil)))) (pe_one (pe_chain op_le op_le (pv 1) (pv 0) (pv 2))))))), ?_⟩
    refine ⟨_, rfl, _, _, _, _, _, rfl, .ty _, k.ty, k.kit, _, rfl, ifb (fun e => ?_) (fun e => ?_)⟩
    · refine ⟨_, rfl, _, _, _, _, _, rfl, .ty _, k.ty, k.kit, _, rfl, _, rfl, ifb (fun e2 => ?_) (fun e2 => ?_)⟩
      · have ei : t = "int" := by
          cases k <;> first | rfl | (exfalso; revert e e2; decide)
        cases k <;> first | (exact absurd ei (by decide)) | skip
        rename_i i
        refine ⟨_, rfl, _, rfl, _, _, rfl, rfl, _, rfl, ifb (fun e3 => ?_) (fun e3 => ?_)⟩
        · exact ⟨_, rfl, _, _, rfl, rfl, Q_bl q (by show (decide _ && decide _) = _; rw [e3]; rfl)⟩
        · exact Q_bl q (by show (decide _ && decide _) = _; rw [e3]; rfl)
      · refine Q_bl q ?_
        cases k <;> first | rfl | (exfalso; revert e e2; decide)
    · refine Q_bl q ?_
      cases k <;> first | rfl | (exfalso; revert e; decide)

theorem ok_is_text (T : Txt K mg) : FnOk P w K mg base CX0 1 T.f_is_text T.d_is_text ["thing", "least", "most"] (sp_is_text K) := by
  refine T.F_is_text.ok sc_is_text (fun vs H Q E h => ?_) (fun cdv A outer s H vs Q E hr h => ?_)
  · obtain ⟨v, t, a, b, rfl, _⟩ := h
    rfl
  · obtain ⟨v, t, a, b, rfl, k, hz, q⟩ := h
    refine ⟨_, (pss_cons (ps_if (PW.pt (pw_or (pt_not (pt_val (pe_callB call_isi rfl T.z_isinstance boot_isinstance (pa_cons (pv 0) (pa_cons (pe_bltn (v := .ty "str") rfl T.z_str boot_str rfl) pa_nil))))) (pw_or1 (pt_not (pt_chain op_le op_le (pv 1) (pe_callB call_len rfl T.z_len boot_len (pa_cons (pv 0) pa_nil)) (pv 2)))))) (pss_one (ps_ret pe_bl)) pss_nil)
      (pss_one (ps_ret (pe_callB (cr_all rfl) rfl T.z_all boot_all (pa_cons (pe_lc (own := [("character", 3)]) (g := (gName 3)) (tt := tYes)  rfl sc_is_text.nd (pi_str (pv 0)) (blkOk_by (own := [("character", 3)]) (N := ["thing", "least", "most", "character"]) (sc := defScope s_is_text) (by decide +kernel)) (fun _ _ _ _ _ => (pg_name (i := 3) sc_is_text.nd rfl (Or.inl rfl))) (fun _ _ _ _ _ => pts_nil) (fun _ _ _ _ _ => (pe_cmpR (op_in_kdI T.CHARACTERS_d) (pe_callB call_ord rfl T.z_ord boot_ord (pa_cons (pv 3) pa_nil)) (pe_glob (v := .ref T.a_CHARACTERS) rfl T.g_CHARACTERS rfl) rfl))) pa_nil))))), ?_⟩
    refine ⟨_, rfl, _, _, _, _, _, rfl, .ty _, k.ty, k.kit, _, rfl, ?_⟩
    refine ifb (fun e => ?_) (fun e => ?_)
    · refine iteT ?_
      refine Q_bl (q H (Same.refl _)) ?_
      cases k <;> first | rfl | (exfalso; revert e; decide)
    · cases k <;> first | (exfalso; revert e; decide) | skip
      rename_i x
      have hx := hz x rfl
      refine ⟨_, rfl, _, rfl, _, _, rfl, ⟨len100 hx, rfl⟩, _, _, rfl, rfl, _, rfl, ifb (fun e2 => ?_) (fun e2 => ?_)⟩
      · refine ⟨_, rfl, _, _, rfl, rfl, _, rfl, ?_⟩
        refine ifb (fun e3 => ?_) (fun e3 => ?_)
        · refine Q_bl (q H (Same.refl _)) ?_
          show (_ && _ && _) = false
          have e3' : decide ((x.length : Int) ≤ b) = false := by simpa using e3
          rw [e3', Bool.and_false, Bool.false_and]
        · have e3' : decide ((x.length : Int) ≤ b) = true := by simpa using e3
          refine ⟨_, rfl, _, rfl, fun D hD => ?_⟩
          refine lc_map walk_str (fun i => V.bl (isChar (x.cps.toList.getD i 0))) (by show x.length ≤ 1000000; omega) hD (fun _ _ => True.intro) ?_ ?_
          · rintro i y H' H'' Q' Z hi s1 ⟨rfl, c, hc, rfl⟩ q'
            refine ⟨rfl, yesI ?_⟩
            refine ⟨_, rfl, _, rfl, rfl, _, rfl, rfl, ?_⟩
            have e4 : x.cps.toList.getD i 0 = c := getD_of 0 (cps_at hc)
            have e5 : (⟨#[c]⟩ : Str).cps.getD 0 0 = c := rfl
            have := q' H'' (Same.refl _)
            rw [e4] at this
            rw [e5, valI_chars]
            cases hcc : isChar c
            · rw [hcc] at this; exact this
            · rw [hcc] at this; exact this
          · intro H' s1 hD'
            refine ⟨_, x.cps.toList.map isChar, rfl, .inl (.inl ?_), ?_⟩
            · rw [hD']
              have : (List.range x.cps.size).map (fun i => V.bl (isChar (x.cps.toList.getD i 0))) = (x.cps.toList.map isChar).map V.bl := by
                rw [List.map_map]
                exact range_map x.cps.toList (fun c => V.bl (isChar c)) 0
              rw [this]
            · refine Q_bl (q H' s1) ?_
              show (_ && _ && _) = _
              rw [e2, e3']
              simp [List.all_map]
      · refine ⟨_, rfl, ?_⟩
        refine iteT ?_
        refine Q_bl (q H (Same.refl _)) ?_
        show (_ && _ && _) = false
        rw [e2, Bool.false_and, Bool.false_and]
theorem ok_is_value (T : Txt K mg) : FnOk P w K mg base CX0 2 T.f_is_value T.d_is_value ["thing"] (sp_is_value K) := by
  refine T.F_is_value.ok sc_is_value (fun vs H Q E h => ?_) (fun cdv A outer s H vs Q E hr h => ?_)
  · obtain ⟨v, t, rfl, _⟩ := h
    rfl
  · obtain ⟨v, t, rfl, k, hz, q⟩ := h
    refine ⟨_, (pss_one (ps_ret (pe_call (ok_is_text T) (hr.mono (by decide)) rfl T.g_is_text T.F_is_text.kp T.b_is_text .nil pass0 (pa_cons (pv 0) (pa_cons pe_int (pa_cons (pe_glob (v := .int 40) rfl T.g_VALUE_MOST ⟨_, rfl⟩) pa_nil)))))), ?_⟩
    exact ⟨_, rfl, v, t, 0, 40, rfl, k, hz, q⟩
theorem ok_law_open (T : Txt K mg) : FnOk P w K mg base CX0 1 T.f_law_open T.d_law_open ["script"] (sp_law_open K) := by
  refine T.F_law_open.ok sc_law_open (fun vs H Q E h => ?_) (fun cdv A outer s H vs Q E hr h => ?_)
  · obtain ⟨a, ns, rfl, _⟩ := h
    rfl
  · obtain ⟨a, ns, rfl, hS, hl, q⟩ := h
    refine ⟨_, (pss_cons (ps_set (i := 1) sc_law_open.nd rfl (Or.inl rfl) (pe_callTy call_list_of rfl T.z_list boot_list (pa_cons (pe_slice sl_list (pv 0) po_none (po_some pe_int)) pa_nil)))
      (pss_cons (ps_for PassesOwn.never rfl (pi_enum rfl T.z_enumerate (pa_cons (pe_slice sl_list (pv 0) (po_some pe_int) (po_some pe_int)) pa_nil)) (pg_tup rfl (pgs_cons (pg_name (i := 2) sc_law_open.nd rfl (Or.inl rfl)) (pgs_cons (pg_name (i := 3) sc_law_open.nd rfl (Or.inl rfl)) pgs_nil)))
        (pss_one (ps_asg (pe_op op_add (pe_ix ix_list (pv 1) (pe_op op_mod (pv 2) pe_int) (fun _ _ => rfl)) (pv 3)) (pg_sub (pv 1) (pe_op op_mod (pv 2) pe_int) set_list))))
      (pss_one (ps_ret (pe_lst (pa_cons (pv 1) (pa_cons pe_int (pa_cons pe_int pa_nil)))))))), ?_⟩
    refine ⟨_, rfl, _, rfl, a, _, rfl, hS, fun p1 hp1 => ?_⟩
    refine ⟨p1, _, rfl, .inl (SqL.of upd_same), fun c hc => ?_⟩
    have s1 : Same H (upd (upd H p1 (.lst (cutV (ns.map V.int) none (some 12)))) c (.lst (cutV (ns.map V.int) none (some 12)))) := (Same.new hp1).trans (Same.new hc)
    have hcc : H c = none := (Same.new hp1).free hc
    refine ⟨_, rfl, _, rfl, _, rfl, a, _, rfl, s1.seq hS, fun p2 hp2 => ?_⟩
    have npc : c ≠ p2 := ne_of_none upd_same hp2
    have s2 := s1.trans (Same.new (o := .lst (cutV (ns.map V.int) (some 12) (some 63))) hp2)
    refine ⟨p2, _, rfl, SqL.of upd_same, ?_⟩
    generalize hH2 : upd (upd (upd H p1 (.lst (cutV (ns.map V.int) none (some 12)))) c (.lst (cutV (ns.map V.int) none (some 12)))) p2 (.lst (cutV (ns.map V.int) (some 12) (some 63))) = H2 at s2 ⊢
    have gc : H2 c = some (.lst ((ns.take 12).map V.int)) := by
      rw [← hH2, upd_ne npc, upd_same]
      have := cut_to (ns.map V.int) 12
      rw [List.map_take]
      exact congrArg (fun l => some (HO.lst l)) this
    have g2 : H2 p2 = some (.lst (cutV (ns.map V.int) (some 12) (some 63))) := by rw [← hH2, upd_same]
    have el : (cutV (ns.map V.int) (some 12) (some 63)) = ((ns.drop 12).take 51).map V.int := by
      have := cut_mid (ns.map V.int) 12 63
      rw [List.map_take, List.map_drop]
      exact this
    rw [el] at g2
    clear hH2 el
    refine for_it (walk_enum (K := K) (a := p2) (xs := ((ns.drop 12).take 51).map V.int)) (fun i σ H' => ∃ (cs : List Int) (x y : Option V), σ = [some (.ref a), some (.ref c), x, y] ∧ But c H2 H' ∧ H' c = some (.lst (cs.map V.int)) ∧ cs.length = (ns.take 12).length)
      ⟨ns.take 12, none, none, rfl, But.refl _ _, gc, rfl⟩ (fun i σ H' _ ⟨_, _, _, _, b, _⟩ => b.seq (Ne.symm npc) (SqL.of g2)) ?_ ?_
    · rintro i x σ H' H'' hi ⟨cs, v1, v2, rfl, b, hcs, hlen⟩ ⟨t, z1, z2, rfl, ht, rfl, e1, e2⟩
      cases e1
      have e3 : ∃ z : Int, z2 = .int z := by
        replace e2 : (((ns.drop 12).take 51).map V.int)[i]? = some z2 := e2
        rw [List.getElem?_map] at e2
        cases e4 : ((ns.drop 12).take 51)[i]? with
        | none => rw [e4] at e2; cases e2
        | some z => rw [e4] at e2; exact ⟨z, (Option.some.inj e2).symm⟩
      obtain ⟨z, rfl⟩ := e3
      have h12 : cs.length = 12 := by
        rw [hlen]
        rw [List.length_map, List.length_take, List.length_drop] at hi
        rw [List.length_take]
        omega
      have hm : i % 12 < cs.length := by omega
      have nct : c ≠ t := ne_of_none hcs ht
      have hcs' : upd H' t (.tup [.int (i : Nat), .int z]) c = some (.lst (cs.map V.int)) := by rw [upd_ne nct]; exact hcs
      refine ⟨t, _, rfl, SqT.of upd_same, rfl, _, _, rfl, _, _, rfl, rfl, ?_⟩
      have em : ((i : Nat) : Int) % 12 = ((i % 12 : Nat) : Int) := by omega
      have ea : atI (cs.map V.int) (((i : Nat) : Int) % 12) = some (.int cs[i % 12]) := by
        rw [em]
        exact atI_nat (by rw [List.getElem?_map, List.getElem?_eq_getElem hm]; rfl)
      refine ⟨_, rfl, _, rfl, _, _, rfl, rfl, (by show (0 : Int) < 12; decide), c, _, _, _, rfl, rfl, SqL.of hcs', ea, _, rfl, _, _, rfl, rfl, ?_⟩
      refine ⟨_, rfl, _, rfl, _, _, rfl, rfl, (by show (0 : Int) < 12; decide), c, _, _, i % 12, rfl, rfl, hcs', ?_, ?_⟩
      · show ixN (cs.map V.int).length (((i : Nat) : Int) % 12) = _
        rw [em]
        exact Evl.ixN_nat (by rw [List.length_map]; exact hm)
      · refine ⟨cs.set (i % 12) (cs[i % 12] + z), _, _, rfl, (b.trans (But.new ht)).trans But.set, ?_, by rw [List.length_set]; exact hlen⟩
        rw [upd_same, ← List.map_set]
    · rintro σ H' ⟨cs, v1, v2, rfl, b, hcs, hlen⟩
      refine ⟨_, rfl, (by show 3 ≤ sizeLine; decide), fun p hp => ?_⟩
      have s3 : Same H H' := fun u o e => b u o (ne_of_none e hcc) (s2 u o e)
      refine q p c _ (s3.free hp) (s3.put (s3.free hp)) ⟨0, 0, cs, upd_same, ?_, ne_of_none hcs hp, ?_, Nat.le_refl _⟩
      · rw [upd_ne (ne_of_none hcs hp)]; exact hcs
      · rw [hlen, List.length_take]; omega
theorem ok_law_spread (T : Txt K mg) : FnOk P w K mg base CX0 1 T.f_law_spread T.d_law_spread ["cell", "at"] sp_law_spread := by
  refine T.F_law_spread.ok sc_law_spread (fun vs H Q E h => ?_) (fun cdv A outer s H vs Q E hr h => ?_)
  · obtain ⟨c, a, rfl, _⟩ := h
    rfl
  · obtain ⟨c, a, rfl, ha, q⟩ := h
    refine ⟨_, (pss_cons (ps_if (pt_cmpR op_ge (pv 0) (pe_op op_pow pe_int pe_int) (nomark _)) (pss_one (ps_ret (pv 0))) pss_nil)
      (pss_cons (ps_set (i := 2) sc_law_spread.nd rfl (Or.inl rfl) (pe_lst (pa_cons pe_int (pa_cons pe_int (pa_cons pe_int (pa_cons pe_int (pa_cons pe_int (pa_cons pe_int (pa_cons pe_int (pa_cons pe_int pa_nil))))))))))
      (pss_cons (ps_set (i := 2) sc_law_spread.nd rfl (Or.inl rfl) (pe_op op_cat (pv 2) (pe_lst (pa_cons pe_int (pa_cons pe_int (pa_cons pe_int (pa_cons pe_int (pa_cons pe_int pa_nil))))))))
      (Evl.pss_cut (ps_set (i := 3) sc_law_spread.nd rfl (Or.inl rfl) (pe_op op_mod (pe_op op_pow (pe_op op_add (pe_op op_add (pe_op op_mul (pe_op op_mod (pv 0) pe_int) (pe_op op_add (pe_op op_mul pe_int (pv 1)) pe_int)) (pe_op op_mul (pv 1) pe_int)) pe_int) pe_int) (pe_ix ix_list (pv 2) (pe_op op_mod (pv 1) pe_int) (fun _ _ => rfl))))
      (Evl.pss_cut (ps_set (i := 4) sc_law_spread.nd rfl (Or.inl rfl) (pe_op op_mod (pe_op op_pow (pe_op op_add (pe_op op_add (pe_op op_mul (pv 3) (pe_op op_add (pv 1) pe_int)) (pe_op op_mod (pv 0) pe_int)) pe_int) pe_int) (pe_ix ix_list (pv 2) (pe_op op_mod (pe_op op_add (pv 1) pe_int) pe_int) (fun _ _ => rfl))))
      (Evl.pss_cut (ps_set (i := 5) sc_law_spread.nd rfl (Or.inl rfl) (pe_op op_mod (pe_op op_pow (pe_op op_add (pe_op op_add (pv 4) (pe_op op_mod (pv 3) pe_int)) (pv 1)) pe_int) (pe_ix ix_list (pv 2) (pe_op op_mod (pe_op op_add (pv 1) pe_int) pe_int) (fun _ _ => rfl))))
      (pss_one (ps_ret (pe_op op_add (pe_op op_mul (pe_op op_add (pe_op op_mul (pv 3) pe_int) (pv 4)) pe_int) (pv 5)))))))))), ?_⟩
    refine ⟨_, rfl, _, _, rfl, rfl, ⟨by decide, by decide, by decide⟩, _, _, rfl, rfl, _, rfl, ?_⟩
    refine ifb (fun _ => ?_) (fun _ => ?_)
    · exact ⟨_, rfl, q c H (Same.refl _)⟩
    refine ⟨by show 8 ≤ sizeLine; decide, fun p1 hp1 => ?_⟩
    refine ⟨_, rfl, by show 5 ≤ sizeLine; decide, fun p2 hp2 => ?_⟩
    have n12 : p1 ≠ p2 := ne_of_none upd_same hp2
    refine ⟨p1, p2, _, _, rfl, rfl, by rw [upd_ne n12]; exact upd_same, upd_same, by show 13 ≤ sizeLine; decide, fun p3 hp3 => ?_⟩
    have s3 : Same H _ := ((Same.new hp1).trans (Same.new hp2)).trans (Same.new (o := .lst (primes.map V.int)) hp3)
    have g3 : upd (upd (upd H p1 (.lst [.int 2147483629, .int 2147483587, .int 2147483579, .int 2147483563, .int 2147483549, .int 2147483543, .int 2147483497, .int 2147483489])) p2 (.lst [.int 2147483477, .int 2147483423, .int 2147483399, .int 2147483353, .int 2147483323])) p3 (.lst (primes.map V.int)) p3 = some (.lst (primes.map V.int)) := upd_same
    have hm1 : 0 ≤ c % 1000000007 ∧ c % 1000000007 < 1000000007 := ⟨Int.emod_nonneg _ (by decide), Int.emod_lt_of_pos _ (by decide)⟩
    have hm2 : 0 ≤ c % 65537 ∧ c % 65537 < 65537 := ⟨Int.emod_nonneg _ (by decide), Int.emod_lt_of_pos _ (by decide)⟩
    have ix : ∀ k : Nat, ∃ r : Int, atI (primes.map V.int) (((k : Nat) : Int) % 13) = some (.int r) ∧ 0 < r ∧ r < 2147483648 := fun k => primes_at (Int.emod_nonneg _ (by decide)) (Int.emod_lt_of_pos _ (by decide))
    obtain ⟨r1, i1, r1p, r1b⟩ := ix a
    obtain ⟨r2, i2, r2p, r2b⟩ := ix (a + 5)
    obtain ⟨r3, i3, r3p, r3b⟩ := ix (a + 7)
    rw [Int.natCast_add] at i2 i3
    have e18 : (10 : Int) ^ 18 = 1000000000000000000 := by decide
    have b1 := mul_bd (A := 1000000007) (B := 2069069) hm1.1 (Int.le_of_lt hm1.2) (b := 2 * (a : Int) + 69069) (by omega) (by omega)
    refine ⟨fun σ' H' => ∃ one : Int, σ' = [some (.int c), some (.int (a : Nat)), some (.ref p3), some (.int one), none, none] ∧ (0 ≤ one ∧ one < 2147483648) ∧ H' p3 = some (.lst (primes.map V.int)) ∧ Same H H', ?_, ?_⟩
    · refine ⟨_, rfl, _, _, rfl, rfl, (by show (0 : Int) < 1000000007; decide), _, rfl, _, _, rfl, rfl, .inl ⟨by decide, by decide⟩, _, _, rfl, rfl, _, _, rfl, rfl, mul64 hm1.1 (by omega),
        _, rfl, _, _, rfl, rfl, .inr ⟨by decide, by decide⟩, _, _, rfl, rfl, _, _, rfl, rfl, _, _, rfl, rfl, ⟨by decide, by decide, pow_small (by omega) (by omega)⟩,
        _, rfl, _, rfl, _, _, rfl, rfl, (by show (0 : Int) < 13; decide), p3, _, _, _, rfl, rfl, SqL.of g3, i1, _, _, rfl, rfl, r1p, ?_⟩
      exact ⟨_, rfl, ⟨Int.emod_nonneg _ (by omega), Int.lt_trans (Int.emod_lt_of_pos _ r1p) r1b⟩, g3, s3⟩
    · rintro σ' H' ⟨one, rfl, hone, g3, s3⟩
      have b2 := mul_bd (A := 2147483648) (B := 1000003) hone.1 (Int.le_of_lt hone.2) (b := (a : Int) + 3) (by omega) (by omega)
      refine ⟨fun σ' H' => ∃ two : Int, σ' = [some (.int c), some (.int (a : Nat)), some (.ref p3), some (.int one), some (.int two), none] ∧ (0 ≤ two ∧ two < 2147483648) ∧ H' p3 = some (.lst (primes.map V.int)) ∧ Same H H', ?_, ?_⟩
      · refine ⟨_, rfl, _, rfl, _, _, rfl, rfl, _, _, rfl, rfl, mul64 hone.1 (by omega), _, rfl, _, _, rfl, rfl, (by show (0 : Int) < 65537; decide), _, _, rfl, rfl, _, _, rfl, rfl, _, _, rfl, rfl, ⟨by decide, by decide, pow_small (by omega) (by omega)⟩,
          _, rfl, _, rfl, _, _, rfl, rfl, _, _, rfl, rfl, (by show (0 : Int) < 13; decide), p3, _, _, _, rfl, rfl, SqL.of g3, i2, _, _, rfl, rfl, r2p, ?_⟩
        exact ⟨_, rfl, ⟨Int.emod_nonneg _ (by omega), Int.lt_trans (Int.emod_lt_of_pos _ r2p) r2b⟩, g3, s3⟩
      · rintro σ' H' ⟨two, rfl, htwo, g3, s3⟩
        have hm3 : 0 ≤ one % 1009 ∧ one % 1009 < 1009 := ⟨Int.emod_nonneg _ (by decide), Int.emod_lt_of_pos _ (by decide)⟩
        refine ⟨fun σ' H' => ∃ three : Int, σ' = [some (.int c), some (.int (a : Nat)), some (.ref p3), some (.int one), some (.int two), some (.int three)] ∧ Same H H', ?_, ?_⟩
        · refine ⟨_, rfl, _, rfl, _, _, rfl, rfl, (by show (0 : Int) < 1009; decide), _, _, rfl, rfl, _, rfl, _, _, rfl, rfl, _, _, rfl, rfl, ⟨by decide, by decide, pow_small (by omega) (by omega)⟩,
            _, rfl, _, rfl, _, _, rfl, rfl, _, _, rfl, rfl, (by show (0 : Int) < 13; decide), p3, _, _, _, rfl, rfl, SqL.of g3, i3, _, _, rfl, rfl, r3p, ?_⟩
          exact ⟨_, rfl, s3⟩
        · rintro σ' H' ⟨three, rfl, s3⟩
          refine ⟨_, rfl, _, _, rfl, rfl, .inr ⟨by decide, by decide⟩, _, rfl, _, _, rfl, rfl, _, _, rfl, rfl, .inr ⟨by decide, by decide⟩, _, rfl, _, _, rfl, rfl, ?_⟩
          exact q _ H' s3

theorem ok_law_take (T : Txt K mg) : FnOk P w K mg base CX0 2 T.f_law_take T.d_law_take ["pen", "amount"] sp_law_take := by
  refine T.F_law_take.ok sc_law_take (fun vs H Q E h => ?_) (fun cdv A outer s H vs Q E hr h => ?_)
  · obtain ⟨p, c, n, k, rfl, _⟩ := h
    rfl
  · obtain ⟨p, c, n, k, rfl, ⟨a, acc, ns, gp, gc, ncp, hns, han⟩, hk0, hk, hn, q⟩ := h
    refine ⟨_, (Evl.pss_cut (ps_if (pt_cmpR op_lt (pe_ix ix_list (pv 0) pe_int (fun _ _ => rfl)) (pv 1) (nomark _)) (pss_cons (ps_set (i := 2) sc_law_take.nd rfl (Or.inl rfl) (pe_ix ix_list (pv 0) pe_int (fun _ _ => rfl)))
      (pss_cons (ps_set (i := 3) sc_law_take.nd rfl (Or.inl rfl) pe_int)
      (Evl.pss_cut (ps_if (pt_cmpR op_lt (pv 2) (pe_callB call_len rfl T.z_len boot_len (pa_cons (pe_ix ix_list (pv 0) pe_int (fun _ _ => rfl)) pa_nil)) (nomark _)) (pss_one (ps_set (i := 3) sc_law_take.nd rfl (Or.inl rfl) (pe_ix ix_list (pe_ix ix_list (pv 0) pe_int (fun _ _ => rfl)) (pv 2) (fun _ _ => rfl)))) (pss_one (ps_if (pt_cmpR op_gt (pe_callB call_len rfl T.z_len boot_len (pa_cons (pe_ix ix_list (pv 0) pe_int (fun _ _ => rfl)) pa_nil)) pe_int (nomark _)) (pss_one (ps_set (i := 3) sc_law_take.nd rfl (Or.inl rfl) (pe_op op_mod (pe_ix ix_list (pe_ix ix_list (pv 0) pe_int (fun _ _ => rfl)) (pe_op op_mod (pe_op op_add (pe_op op_mul (pv 2) pe_int) pe_int) (pe_callB call_len rfl T.z_len boot_len (pa_cons (pe_ix ix_list (pv 0) pe_int (fun _ _ => rfl)) pa_nil))) (fun _ _ => rfl)) (pe_op op_add (pe_op op_pow pe_int pe_int) (pv 2))))) pss_nil)))
      (pss_cons (ps_asg (pe_op op_add (pv 2) pe_int) (pg_sub (pv 0) pe_int set_list))
      (pss_one (ps_asg (pe_call (ok_law_spread T) (hr.mono (by decide)) rfl T.g_law_spread T.F_law_spread.kp T.b_law_spread .nil pass0 (pa_cons (pv 3) (pa_cons (pv 2) pa_nil))) (pg_sub (pv 0) pe_int set_list))))))) pss_nil)
      (pss_cons (ps_set (i := 4) sc_law_take.nd rfl (Or.inl rfl) (pe_op op_mod (pe_ix ix_list (pv 0) pe_int (fun _ _ => rfl)) (pv 1)))
      (pss_cons (ps_asg (pe_op op_fdiv (pe_ix ix_list (pv 0) pe_int (fun _ _ => rfl)) (pv 1)) (pg_sub (pv 0) pe_int set_list))
      (pss_one (ps_ret (pv 4)))))), ?_⟩
    refine ⟨fun σ' H' => ∃ (a' : Nat) (acc' : Int) (x y : Option V), σ' = [some (.ref p), some (.int k), x, y, none] ∧ But p H H' ∧ H' p = some (.lst [.ref c, .int (a' : Nat), .int acc']) ∧ H' c = some (.lst (ns.map V.int)) ∧ a' ≤ n + 1, ?_, ?_⟩
    · refine ⟨_, rfl, p, _, _, _, rfl, rfl, SqL.of gp, rfl, _, rfl, _, _, rfl, rfl, _, rfl, ?_⟩
      refine ifb (fun _ => ?_) (fun _ => ?_)
      · refine ⟨_, rfl, p, _, _, _, rfl, rfl, SqL.of gp, rfl, ?_⟩
        refine ⟨fun σ' H' => ∃ z : Int, σ' = [some (.ref p), some (.int k), some (.int (a : Nat)), some (.int z), none] ∧ H = H', ?_, ?_⟩
        · refine ⟨_, rfl, _, rfl, p, _, _, _, rfl, rfl, SqL.of gp, rfl, _, _, rfl, .inl ⟨_, SqL.of gc, rfl⟩, _, _, rfl, rfl, _, rfl, ?_⟩
          rw [List.length_map]
          by_cases c1 : a < ns.length
          · refine ifT (decide_eq_true (by omega)) ?_
            refine ⟨_, rfl, p, _, _, _, rfl, rfl, SqL.of gp, rfl, _, rfl, c, _, _, _, rfl, rfl, SqL.of gc, atI_nat (j := a) (v := .int ns[a]) (by rw [List.getElem?_map, List.getElem?_eq_getElem c1]; rfl), ?_⟩
            exact ⟨_, rfl, rfl⟩
          · refine ifF (decide_eq_false (by omega)) ?_
            refine ⟨_, rfl, p, _, _, _, rfl, rfl, SqL.of gp, rfl, _, _, rfl, .inl ⟨_, SqL.of gc, rfl⟩, _, _, rfl, rfl, _, rfl, ?_⟩
            rw [List.length_map]
            by_cases c2 : 0 < ns.length
            · refine ifT (decide_eq_true (by omega)) ?_
              have hm : (((a : Nat) : Int) * 5 + 3) % ((ns.length : Nat) : Int) = (((a * 5 + 3) % ns.length : Nat) : Int) := by
                rw [Int.natCast_emod]; rfl
              have hlt : (a * 5 + 3) % ns.length < ns.length := Nat.mod_lt _ c2
              obtain ⟨w0, ea⟩ : ∃ w0 : Int, atI (ns.map V.int) ((((a : Nat) : Int) * 5 + 3) % (((ns.map V.int).length : Nat) : Int)) = some (.int w0) := by
                rw [List.length_map, hm]
                exact ⟨ns[(a * 5 + 3) % ns.length], atI_nat (by rw [List.getElem?_map, List.getElem?_eq_getElem hlt]; rfl)⟩
              have pos : (0 : Int) < (((ns.map V.int).length : Nat) : Int) := by rw [List.length_map]; omega
              have e17 : (10 : Int) ^ (17 : Int).toNat = 100000000000000000 := by decide
              refine ⟨_, rfl, p, _, _, _, rfl, rfl, SqL.of gp, rfl, _, rfl, _, _, rfl, rfl, .inr ⟨by decide, by decide⟩, _, _, rfl, rfl, _, rfl, p, _, _, _, rfl, rfl, SqL.of gp, rfl, _, _, rfl, .inl ⟨_, SqL.of gc, rfl⟩, _, _, rfl, rfl, pos,
                c, _, _, _, rfl, rfl, SqL.of gc, ea, _, _, rfl, rfl, ⟨by decide, by decide, by decide⟩, _, rfl, _, _, rfl, rfl, _, _, rfl, rfl, ?_, ?_⟩
              · show (0 : Int) < (10 : Int) ^ (17 : Int).toNat + (a : Int)
                rw [e17]
                omega
              · exact ⟨_, rfl, rfl⟩
            · refine ifF (decide_eq_false (by omega)) ?_
              exact ⟨_, rfl, rfl⟩
        · rintro σ' H' ⟨z, rfl, rfl⟩
          refine ⟨_, rfl, _, _, rfl, rfl, _, rfl, p, _, _, 1, rfl, rfl, gp, rfl, ?_⟩
          refine ⟨_, rfl, _, rfl, z, a, rfl, by omega, fun r H' s1 => ?_⟩
          have g1 : H' p = some (.lst [.ref c, .int ((a + 1 : Nat) : Int), .int acc]) := s1 _ _ upd_same
          have gc1 : H' c = some (.lst (ns.map V.int)) := s1 _ _ (by rw [upd_ne ncp]; exact gc)
          refine ⟨_, rfl, p, _, _, 2, rfl, rfl, g1, rfl, ?_⟩
          exact ⟨a + 1, r, _, _, rfl, (But.set.trans (But.of s1)).trans But.set, upd_same, by rw [upd_ne ncp]; exact gc1, by omega⟩
      · exact ⟨a, acc, none, none, rfl, But.refl _ _, gp, gc, by omega⟩
    · rintro σ' H' ⟨a', acc', x, y, rfl, b, gp', gc', ha'⟩
      refine ⟨_, rfl, p, _, _, _, rfl, rfl, SqL.of gp', rfl, _, rfl, _, _, rfl, rfl, hk0, ?_⟩
      refine ⟨_, rfl, p, _, _, _, rfl, rfl, SqL.of gp', rfl, _, rfl, _, _, rfl, rfl, ⟨hk0, hk⟩, _, rfl, p, _, _, 2, rfl, rfl, gp', rfl, ?_⟩
      refine ⟨_, rfl, ?_⟩
      exact q _ _ (Int.emod_nonneg _ (by omega)) (Int.emod_lt_of_pos _ hk0) ⟨⟨a', _, ns, upd_same, by rw [upd_ne ncp]; exact gc', ncp, hns, ha'⟩, b.trans But.set⟩
theorem ok_law_one_of (T : Txt K mg) : FnOk P w K mg base CX0 3 T.f_law_one_of T.d_law_one_of ["pen", "some"] (sp_law_one_of K) := by
  refine T.F_law_one_of.ok sc_law_one_of (fun vs H Q E h => ?_) (fun cdv A outer s H vs Q E hr h => ?_)
  · obtain ⟨p, c, a, n, xs, rfl, _⟩ := h
    rfl
  · obtain ⟨p, c, a, n, xs, rfl, hp, hS, nap, hne, hz, hn, q⟩ := h
    refine ⟨_, (pss_one (ps_ret (pe_ix ix_list (pv 1) (pe_call (ok_law_take T) (hr.mono (by decide)) rfl T.g_law_take T.F_law_take.kp T.b_law_take .nil pass0 (pa_cons (pv 0) (pa_cons (pe_callB call_len rfl T.z_len boot_len (pa_cons (pv 1) pa_nil)) pa_nil))) (fun _ _ => rfl)))), ?_⟩
    have hpos : 0 < xs.length := List.length_pos_iff.mpr hne
    refine ⟨_, rfl, _, rfl, _, rfl, _, _, rfl, .inl ⟨_, hS, rfl⟩, ?_⟩
    refine ⟨p, c, n, xs.length, rfl, hp, by omega, by omega, hn, fun r H' h0 h1 d => ?_⟩
    have hr' : r.toNat < xs.length := by omega
    have er : r = ((r.toNat : Nat) : Int) := by omega
    refine ⟨a, xs, r, xs[r.toNat], rfl, rfl, d.but.seq nap hS, ?_, ?_⟩
    · exact at_of er (List.getElem?_eq_getElem hr')
    · exact q _ H' (List.getElem_mem hr') d
theorem ok_law_signs (T : Txt K mg) : FnOk P w K mg base CX0 1 T.f_law_signs T.d_law_signs [] sp_law_signs := by
  refine T.F_law_signs.ok sc_law_signs (fun vs H Q E h => ?_) (fun cdv A outer s H vs Q E hr h => ?_)
  · obtain ⟨rfl, _⟩ := h
    rfl
  · obtain ⟨rfl, q⟩ := h
    refine ⟨_, (pss_one (ps_ret pe_str)), ?_⟩
    exact q

theorem ok_law_draw_text (T : Txt K mg) : FnOk P w K mg base CX0 4 T.f_law_draw_text T.d_law_draw_text ["pen", "least", "most"] sp_law_draw_text := by
  refine T.F_law_draw_text.ok sc_law_draw_text (fun vs H Q E h => ?_) (fun cdv A outer s H vs Q E hr h => ?_)
  · obtain ⟨p, c, n, a, b, rfl, _⟩ := h
    rfl
  · obtain ⟨p, c, n, a, b, rfl, hp, hn, ha1, hab, hb, q⟩ := h
    refine ⟨_, (pss_cons (ps_set (i := 3) sc_law_draw_text.nd rfl (Or.inl rfl) (pe_call (ok_law_one_of T) (hr.mono (by decide)) rfl T.g_law_one_of T.F_law_one_of.kp T.b_law_one_of .nil pass0 (pa_cons (pv 0) (pa_cons (pe_lst (pa_cons (pv 1) (pa_cons (pv 2) (pa_cons (pe_op op_add (pv 1) (pe_call (ok_law_take T) (hr.mono (by decide)) rfl T.g_law_take T.F_law_take.kp T.b_law_take .nil pass0 (pa_cons (pv 0) (pa_cons (pe_op op_add (pe_op op_sub (pv 2) (pv 1)) pe_int) pa_nil)))) (pa_cons (pe_callB (call_min2 rfl) rfl T.z_min boot_min (pa_cons (pv 2) (pa_cons (pe_op op_add (pv 1) pe_int) pa_nil))) (pa_cons (pe_callB (call_min2 rfl) rfl T.z_min boot_min (pa_cons (pv 2) (pa_cons pe_int pa_nil))) pa_nil)))))) pa_nil))))
      (Evl.pss_cut (ps_set (i := 3) sc_law_draw_text.nd rfl (Or.inl rfl) (pe_callB (call_max2 rfl) rfl T.z_max boot_max (pa_cons (pv 1) (pa_cons (pv 3) pa_nil))))
      (pss_cons (ps_if (pt_cmpR op_eq (pe_call (ok_law_take T) (hr.mono (by decide)) rfl T.g_law_take T.F_law_take.kp T.b_law_take .nil pass0 (pa_cons (pv 0) (pa_cons pe_int pa_nil))) pe_int (nomark _)) (pss_one (ps_ret (pe_slice sl_str (pe_op op_mul_str (pe_call (ok_law_one_of T) (hr.mono (by decide)) rfl T.g_law_one_of T.F_law_one_of.kp T.b_law_one_of .nil pass0 (pa_cons (pv 0) (pa_cons (pe_lst (pa_cons pe_str (pa_cons pe_str (pa_cons pe_str (pa_cons pe_str (pa_cons pe_str pa_nil)))))) pa_nil))) pe_int) po_none (po_some (pv 3))))) pss_nil)
      (pss_one (ps_ret (pe_join pe_str (pe_lc (own := [("k", 4)]) (g := (gName 4)) (tt := tYes)  rfl sc_law_draw_text.nd (pi_range1 rfl T.z_range (pa_cons (pv 3) pa_nil)) (blkOk_by (own := [("k", 4)]) (N := ["pen", "least", "most", "size", "k"]) (sc := defScope s_law_draw_text) (by decide +kernel)) (fun _ _ _ _ _ => (pg_name (i := 4) sc_law_draw_text.nd rfl (Or.inl rfl))) (fun _ _ _ _ _ => pts_nil) (fun _ _ _ _ _ => (pe_ix ix_str (pe_call0 (ok_law_signs T) (hr.mono (by decide)) rfl T.g_law_signs T.F_law_signs.kp T.b_law_signs .nil pass0) (pe_call (ok_law_take T) (hr.mono (by decide)) rfl T.g_law_take T.F_law_take.kp T.b_law_take .nil pass0 (pa_cons (pv 0) (pa_cons pe_int pa_nil))) (fun _ _ => rfl)))))))))), ?_⟩
    refine ⟨_, rfl, _, rfl, _, rfl, _, rfl, _, rfl, _, rfl, _, rfl, _, _, rfl, rfl, _, _, rfl, rfl, p, c, n, _, rfl, hp, by omega, by omega, by omega, fun r H1 h0 h1 d1 => ?_⟩
    refine ⟨_, _, rfl, rfl, _, rfl, _, rfl, _, _, rfl, rfl, _, _, rfl, _, rfl, _, _, rfl, by show 5 ≤ sizeLine; decide, fun l hl => ?_⟩
    refine ⟨p, c, l, n + 1, _, rfl, d1.pen.keep (Same.new hl), SqL.of upd_same, Ne.symm (d1.pen.ne hl), by simp, by simp, by omega, fun x H2 hx d2 => ?_⟩
    have hx' : ∃ z : Int, x = .int z ∧ 0 ≤ z ∧ z ≤ b := by
      simp only [List.mem_cons, List.not_mem_nil, or_false] at hx
      rcases hx with h | h | h | h | h
      · exact ⟨_, h, by omega, by omega⟩
      · exact ⟨_, h, by omega, by omega⟩
      · exact ⟨_, h, by omega, by omega⟩
      · exact ⟨_, h, by split <;> omega, by split <;> omega⟩
      · exact ⟨_, h, by split <;> omega, by split <;> omega⟩
    obtain ⟨z, rfl, hz0, hz1⟩ := hx'
    have d12 : Drew p c H H2 (n + 2) := ⟨d2.pen, (d1.but.trans (But.new hl)).trans d2.but⟩
    refine ⟨fun σ' H' => ∃ k : Nat, σ' = [some (.ref p), some (.int (a : Nat)), some (.int (b : Nat)), some (.int (k : Nat)), none] ∧ a ≤ k ∧ k ≤ b ∧ H2 = H', ?_, ?_⟩
    · refine ⟨_, rfl, _, rfl, _, _, rfl, ?_⟩
      have e : (if z > (a : Int) then z else (a : Int)) = (((if z > (a : Int) then z else (a : Int)).toNat : Nat) : Int) := by split <;> omega
      refine ⟨(if z > (a : Int) then z else (a : Int)).toNat, ?_, ?_, ?_, rfl⟩
      · rw [← e]; rfl
      · split <;> omega
      · split <;> omega
    · rintro σ' H' ⟨k, rfl, hk0, hk1, rfl⟩
      refine ⟨_, rfl, p, c, n + 2, _, rfl, d12.pen, by omega, by omega, by omega, fun r3 H3 h30 h31 d3 => ?_⟩
      have d123 := d12.trans d3
      refine ⟨rfl, _, rfl, ?_⟩
      refine ifb (fun _ => ?_) (fun _ => ?_)
      · refine ⟨_, rfl, by show 5 ≤ sizeLine; decide, fun l2 hl2 => ?_⟩
        refine ⟨p, c, l2, n + 3, _, rfl, d123.pen.keep (Same.new hl2), SqL.of upd_same, Ne.symm (d123.pen.ne hl2), by simp, by simp, by omega, fun x H4 hx d4 => ?_⟩
        have hw : ∃ y ∈ textWords, x = .str y := by
          simp only [List.mem_cons, List.not_mem_nil, or_false] at hx
          rcases hx with h | h | h | h | h
          · exact ⟨_, by decide, h⟩
          · exact ⟨_, by decide, h⟩
          · exact ⟨_, by decide, h⟩
          · exact ⟨_, by decide, h⟩
          · exact ⟨_, by decide, h⟩
        obtain ⟨y, hy, rfl⟩ := hw
        have ok := List.all_eq_true.mp words_ok y hy
        simp only [Bool.and_eq_true, decide_eq_true_eq] at ok
        obtain ⟨⟨ok1, ok2⟩, ok3⟩ := ok
        refine ⟨y, 9, rfl, rfl, by decide, by decide, ok2, by omega, ?_⟩
        have hrl := rep_len y 9
        refine ⟨_, rfl, _, rfl, _, rfl, ?_, ?_⟩
        · exact len100 (by show (repS y 9).length ≤ 100000; omega)
        · refine q _ H4 ?_ ⟨d4.pen.mono (by omega), (d123.but.trans (But.new hl2)).trans d4.but⟩
          have hl9 : (repS y 9).cps.toList.length = 9 * y.length := by rw [← str_len]; exact hrl
          refine txt_cut (x := repS y 9) ?_ ⟨ha1, hk0, hk1⟩ (rep_all ok1)
          omega
      · refine ⟨⟨_, rfl⟩, _, rfl, _, rfl, by omega, by omega, fun D hD => ?_⟩
        refine lc_gen walk_range (fun i ys H' => Drew p c H3 H' (n + 3 + i) ∧ ∃ cs : List Nat, ys = cs.map (fun c => V.str ⟨#[c]⟩) ∧ cs.all isChar = true) (by omega) ?_ (fun _ _ _ _ => True.intro) ?_ ?_
        · exact ⟨⟨(d123.pen.upd (d123.pen.ne hD) (d123.pen.nec hD)).mono (by omega), But.new hD⟩, [], rfl, rfl⟩
        · rintro i ys x H' H'' Q' Z hi hl hDl ⟨d4, cs, rfl, hcs⟩ ⟨rfl, rfl⟩ q'
          refine ⟨rfl, yesI ?_⟩
          refine ⟨rfl, _, rfl, p, c, n + 3 + i, _, rfl, d4.pen, by omega, by omega, by omega, fun r5 H5 h50 h51 d5 => ?_⟩
          have hr5 : r5.toNat < charCodes.length := by
            have : charCodes.length = 43 := rfl
            omega
          have e5 : charCodes[r5.toNat]? = some charCodes[r5.toNat] := List.getElem?_eq_getElem hr5
          have e6 : signs.cps.toList[r5.toNat]? = some charCodes[r5.toNat] := by rw [signs_cps]; exact e5
          refine ⟨signs, r5, charCodes[r5.toNat], rfl, rfl, by decide, at_ofN (j := r5.toNat) (by omega) e6, ?_⟩
          have npD : p ≠ D := d123.pen.ne hD
          have ncD : c ≠ D := d123.pen.nec hD
          refine q' _ H5 (d5.but D _ (Ne.symm npD) hDl) ⟨⟨(d5.pen.upd npD ncD).mono (by omega), (d4.but.trans d5.but).put hD⟩, cs ++ [charCodes[r5.toNat]], ?_, ?_⟩
          · rw [List.map_append]; rfl
          · rw [List.all_append, hcs]
            have : isChar charCodes[r5.toNat] = true := List.contains_iff_mem.mpr (List.getElem_mem hr5)
            simp [this]
        · rintro ys H' hl hDl ⟨d4, cs, rfl, hcs⟩
          rw [List.length_map] at hl
          refine ⟨"", D, cs.map (fun c => (⟨#[c]⟩ : Str)), rfl, rfl, .inl (SqL.of (by rw [hDl, List.map_map]; rfl)), ?_, ?_⟩
          · have e0 : ("" : Str).length = 0 := rfl
            have e1 : ((cs.map (fun c => (⟨#[c]⟩ : Str))).map (·.length)).sum = cs.length := by
              rw [List.map_map]
              clear hcs hDl hl
              induction cs with
              | nil => rfl
              | cons a r ih => rw [List.map_cons, List.sum_cons, ih, List.length_cons]; show 1 + r.length = _; omega
            rw [e1, e0]
            omega
          · have ej : Txt.join "" (cs.map (fun c => (⟨#[c]⟩ : Str))) = ⟨cs.toArray⟩ := join_signs cs
            rw [ej]
            have e2 : (⟨cs.toArray⟩ : Str).length = cs.length := by show cs.toArray.size = _; simp
            refine q _ H' (txt_of (by omega) (by omega) ?_) (d123.trans (d4.mono (by omega)))
            show cs.toArray.toList.all isChar = true
            simpa using hcs

theorem same_zip {xs ys : List V} {ds : List PyData} {n : Nat} {H : Hp} {i : Nat} {x y : V} (ax : DpAll K H xs ds) (ay : DpAll K H ys ds) (hd : ∀ d ∈ ds, DLe n d) (hx : xs[i]? = some x) (hy : ys[i]? = some y) :
    ∃ d, Dp K H x d ∧ Dp K H y d ∧ DLe n d := by
  obtain ⟨d, h1, h2⟩ := dpAll_at ax hx
  obtain ⟨e, h3, h4⟩ := dpAll_at ay hy
  rw [h1] at h3
  cases h3
  exact ⟨d, h2, h4, hd d (List.mem_of_getElem? h1)⟩
theorem ok_law_same__rec (T : Txt K mg) (n k : Nat) (G : FnOk P w K mg base CX0 k T.f_law_same T.d_law_same ["found", "due"] (sp_same_sub K n)) : FnOk P w K mg base CX0 (k + 1) T.f_law_same T.d_law_same ["found", "due"] (sp_law_same K n) := by
  refine T.F_law_same.ok sc_law_same (fun vs H Q E h => ?_) (fun cdv A outer s H vs Q E hr h => ?_)
  · obtain ⟨v, u, d, rfl, _⟩ := h
    rfl
  · obtain ⟨v, u, d, rfl, hv, hu, hd, q⟩ := h
    refine ⟨_, (pss_cons (ps_if (PW.pt (pw_or (pt_cmpR op_isN (pv 1) pe_non (nomark _)) (pw_or1 (pt_cmpR op_isN (pv 0) pe_non (nomark _))))) (pss_one (ps_ret (pe_and (pe_cmpR op_isN (pv 1) pe_non (nomark _)) (pe_one (pe_cmpR op_isN (pv 0) pe_non (nomark _)))))) pss_nil)
      (pss_cons (ps_if (PW.pt (pw_or (pt_val (pe_callB call_isi rfl T.z_isinstance boot_isinstance (pa_cons (pv 1) (pa_cons (pe_bltn (v := .ty "bool") rfl T.z_bool boot_bool rfl) pa_nil)))) (pw_or1 (pt_val (pe_callB call_isi rfl T.z_isinstance boot_isinstance (pa_cons (pv 0) (pa_cons (pe_bltn (v := .ty "bool") rfl T.z_bool boot_bool rfl) pa_nil))))))) (pss_one (ps_ret (pe_and (pe_callB call_isi rfl T.z_isinstance boot_isinstance (pa_cons (pv 1) (pa_cons (pe_bltn (v := .ty "bool") rfl T.z_bool boot_bool rfl) pa_nil))) (pe_and (pe_callB call_isi rfl T.z_isinstance boot_isinstance (pa_cons (pv 0) (pa_cons (pe_bltn (v := .ty "bool") rfl T.z_bool boot_bool rfl) pa_nil))) (pe_one (pe_cmpR op_eq (pv 0) (pv 1) (nomark _))))))) pss_nil)
      (pss_cons (ps_if (pt_val (pe_callB call_isiT rfl T.z_isinstance boot_isinstance (pa_cons (pv 1) (pa_cons (pe_tup (pa_cons (pe_bltn (v := .ty "int") rfl T.z_int boot_int rfl) (pa_cons (pe_bltn (v := .ty "str") rfl T.z_str boot_str rfl) pa_nil))) pa_nil)))) (pss_cons (ps_if (pt_cmpR op_ne (pe_callB call_isi rfl T.z_isinstance boot_isinstance (pa_cons (pv 0) (pa_cons (pe_bltn (v := .ty "int") rfl T.z_int boot_int rfl) pa_nil))) (pe_callB call_isi rfl T.z_isinstance boot_isinstance (pa_cons (pv 1) (pa_cons (pe_bltn (v := .ty "int") rfl T.z_int boot_int rfl) pa_nil))) (nomark _)) (pss_one (ps_ret pe_bl)) pss_nil)
      (pss_one (ps_ret (pe_and (pe_callB call_isiT rfl T.z_isinstance boot_isinstance (pa_cons (pv 0) (pa_cons (pe_tup (pa_cons (pe_bltn (v := .ty "int") rfl T.z_int boot_int rfl) (pa_cons (pe_bltn (v := .ty "str") rfl T.z_str boot_str rfl) pa_nil))) pa_nil))) (pe_one (pe_cmpR op_eq (pv 0) (pv 1) (nomark _))))))) pss_nil)
      (pss_cons (ps_if (PW.pt (pw_or (pt_cmpR op_ne (pe_callB call_isi rfl T.z_isinstance boot_isinstance (pa_cons (pv 1) (pa_cons (pe_bltn (v := .ty "tuple") rfl T.z_tuple boot_tuple rfl) pa_nil))) (pe_callB call_isi rfl T.z_isinstance boot_isinstance (pa_cons (pv 0) (pa_cons (pe_bltn (v := .ty "tuple") rfl T.z_tuple boot_tuple rfl) pa_nil))) (nomark _)) (pw_or1 (pt_cmpR op_ne (pe_callB call_isi rfl T.z_isinstance boot_isinstance (pa_cons (pv 1) (pa_cons (pe_bltn (v := .ty "list") rfl T.z_list boot_list rfl) pa_nil))) (pe_callB call_isi rfl T.z_isinstance boot_isinstance (pa_cons (pv 0) (pa_cons (pe_bltn (v := .ty "list") rfl T.z_list boot_list rfl) pa_nil))) (nomark _))))) (pss_one (ps_ret pe_bl)) pss_nil)
      (pss_cons (ps_if (pt_cmpR op_ne (pe_callB call_len rfl T.z_len boot_len (pa_cons (pv 0) pa_nil)) (pe_callB call_len rfl T.z_len boot_len (pa_cons (pv 1) pa_nil)) (nomark _)) (pss_one (ps_ret pe_bl)) pss_nil)
      (pss_one (ps_ret (pe_cmpR op_notIn_seq pe_bl (pe_lc (own := [("one", 2), ("other", 3)]) (g := (gTup K 2 (gCons (gName 2) (gCons (gName 3) gNil)))) (tt := tYes)  rfl sc_law_same.nd (RZ.pi_zipA rfl T.z_zip (pa_cons (pv 0) (pa_cons (pv 1) pa_nil))) (blkOk_by (own := [("one", 2), ("other", 3)]) (N := ["found", "due", "one", "other"]) (sc := defScope s_law_same) (by decide +kernel)) (fun _ _ _ _ _ => (pg_tup rfl (pgs_cons (pg_name (i := 2) sc_law_same.nd rfl (Or.inl rfl)) (pgs_cons (pg_name (i := 3) sc_law_same.nd rfl (Or.inl rfl)) pgs_nil)))) (fun _ _ _ _ _ => pts_nil) (fun _ _ _ _ _ => (pe_call G hr rfl T.g_law_same T.F_law_same.kp T.b_law_same .nil pass0 (pa_cons (pv 2) (pa_cons (pv 3) pa_nil))))) rfl)))))))), ?_⟩
    cases hv with
    | non =>
      cases hu
      exact ⟨_, rfl, rfl, _, rfl, iteT ⟨_, rfl, rfl, _, rfl, iteT ⟨_, rfl, rfl, q H (Same.refl _)⟩⟩⟩
    | bl b =>
      have k0 : Kind K H (.bl b) "bool" := .bl b
      cases hu
      refine ⟨_, rfl, rfl, _, rfl, ifF rfl ⟨_, rfl, rfl, _, rfl, ifF rfl ?_⟩⟩
      refine ⟨_, rfl, _, _, _, _, _, rfl, .ty _, k0.ty, k0.kit, _, rfl, iteT ?_⟩
      refine ⟨_, rfl, _, _, _, _, _, rfl, .ty _, k0.ty, k0.kit, _, rfl, iteT ?_⟩
      refine ⟨_, rfl, _, _, _, _, _, rfl, .ty _, k0.ty, k0.kit, _, rfl, iteT ?_⟩
      exact ⟨_, rfl, _, rfl, rfl, Q_bl (q H (Same.refl _)) (decide_eq_true rfl).symm⟩
    | int i =>
      have k0 : Kind K H (.int i) "int" := .int i
      cases hu
      refine ⟨_, rfl, rfl, _, rfl, ifF rfl ⟨_, rfl, rfl, _, rfl, ifF rfl ?_⟩⟩
      refine ⟨_, rfl, _, _, _, _, _, rfl, .ty _, k0.ty, k0.kit, _, rfl, ifF rfl ?_⟩
      refine ⟨_, rfl, _, _, _, _, _, rfl, .ty _, k0.ty, k0.kit, _, rfl, ifF rfl ?_⟩
      refine ⟨_, rfl, by show 2 ≤ sizeLine; decide, fun tp htp => ?_⟩
      have k1 := k0.keep (Same.new (o := .tup [.ty "int", .ty "str"]) htp)
      refine ⟨_, tp, _, _, _, _, rfl, upd_same, .cons (.ty _) (.cons (.ty _) .nil), k1.ty, k1.kit2, _, rfl, ifT rfl ?_⟩
      refine ⟨_, rfl, _, _, _, _, _, rfl, .ty _, k1.ty, k1.kit, _, rfl, _, _, _, _, _, rfl, .ty _, k1.ty, k1.kit, rfl, _, rfl, ifF rfl ?_⟩
      refine ⟨_, rfl, by show 2 ≤ sizeLine; decide, fun tp2 htp2 => ?_⟩
      have k2 := k1.keep (Same.new (o := .tup [.ty "int", .ty "str"]) htp2)
      refine ⟨_, tp2, _, _, _, _, rfl, upd_same, .cons (.ty _) (.cons (.ty _) .nil), k2.ty, k2.kit2, _, rfl, ifT rfl ?_⟩
      exact ⟨_, rfl, _, rfl, rfl, Q_bl (q _ ((Same.new htp).trans (Same.new htp2))) (decide_eq_true rfl).symm⟩
    | str x =>
      have k0 : Kind K H (.str x) "str" := .str x
      cases hu
      refine ⟨_, rfl, rfl, _, rfl, ifF rfl ⟨_, rfl, rfl, _, rfl, ifF rfl ?_⟩⟩
      refine ⟨_, rfl, _, _, _, _, _, rfl, .ty _, k0.ty, k0.kit, _, rfl, ifF rfl ?_⟩
      refine ⟨_, rfl, _, _, _, _, _, rfl, .ty _, k0.ty, k0.kit, _, rfl, ifF rfl ?_⟩
      refine ⟨_, rfl, by show 2 ≤ sizeLine; decide, fun tp htp => ?_⟩
      have k1 := k0.keep (Same.new (o := .tup [.ty "int", .ty "str"]) htp)
      refine ⟨_, tp, _, _, _, _, rfl, upd_same, .cons (.ty _) (.cons (.ty _) .nil), k1.ty, k1.kit2, _, rfl, ifT rfl ?_⟩
      refine ⟨_, rfl, _, _, _, _, _, rfl, .ty _, k1.ty, k1.kit, _, rfl, _, _, _, _, _, rfl, .ty _, k1.ty, k1.kit, rfl, _, rfl, ifF rfl ?_⟩
      refine ⟨_, rfl, by show 2 ≤ sizeLine; decide, fun tp2 htp2 => ?_⟩
      have k2 := k1.keep (Same.new (o := .tup [.ty "int", .ty "str"]) htp2)
      refine ⟨_, tp2, _, _, _, _, rfl, upd_same, .cons (.ty _) (.cons (.ty _) .nil), k2.ty, k2.kit2, _, rfl, ifT rfl ?_⟩
      exact ⟨_, rfl, _, rfl, rfl, Q_bl (q _ ((Same.new htp).trans (Same.new htp2))) (decide_eq_true rfl).symm⟩
    | @lst av xv ds h1 a1 =>
      cases hu with
      | @lst au xu _ h2 a2 =>
      cases n with
      | zero => exact hd.elim
      | succ m =>
      obtain ⟨hlen, hds⟩ := hd
      have kv : Kind K H (.ref av) "list" := .lst h1
      have ku : Kind K H (.ref au) "list" := .lst h2
      refine ⟨_, rfl, rfl, _, rfl, ifF rfl ⟨_, rfl, rfl, _, rfl, ifF rfl ?_⟩⟩
      refine ⟨_, rfl, _, _, _, _, _, rfl, .ty _, ku.ty, ku.kit, _, rfl, ifF rfl ?_⟩
      refine ⟨_, rfl, _, _, _, _, _, rfl, .ty _, kv.ty, kv.kit, _, rfl, ifF rfl ?_⟩
      refine ⟨_, rfl, by show 2 ≤ sizeLine; decide, fun tp htp => ?_⟩
      have s1 := Same.new (o := .tup [.ty "int", .ty "str"]) htp
      have ku1 := ku.keep s1
      have kv1 := kv.keep s1
      refine ⟨_, tp, _, _, _, _, rfl, upd_same, .cons (.ty _) (.cons (.ty _) .nil), ku1.ty, ku1.kit2, _, rfl, ifF rfl ?_⟩
      refine ⟨_, rfl, _, _, _, _, _, rfl, .ty _, ku1.ty, ku1.kit, _, rfl, _, _, _, _, _, rfl, .ty _, kv1.ty, kv1.kit, rfl, _, rfl, ifF rfl ?_⟩
      refine ⟨_, rfl, _, _, _, _, _, rfl, .ty _, ku1.ty, ku1.kit, _, rfl, _, _, _, _, _, rfl, .ty _, kv1.ty, kv1.kit, rfl, _, rfl, ifF rfl ?_⟩
      have l1 := dpAll_len a1
      have l2 := dpAll_len a2
      refine ⟨_, rfl, _, _, rfl, .inl ⟨_, s1.seq h1, rfl⟩, _, rfl, _, _, rfl, .inl ⟨_, s1.seq h2, rfl⟩, rfl, _, rfl, ifF (by rw [l1, l2]; simp) ?_⟩
      refine ⟨_, rfl, _, rfl, av, au, xv, xu, rfl, .inl ⟨s1.seq h1, s1.seq h2, fun D hD => ?_⟩⟩
      refine lc_map (walk_zip (n := ds.length) (by rw [l1, l2, Nat.min_self])) (fun _ => V.bl true) (by omega) hD (fun H' s2 => ⟨(s1.trans s2).seq h1, (s1.trans s2).seq h2⟩) ?_ ?_
      · rintro i z H' H'' Q' Z hi s2 ⟨t, x, y, rfl, ht, rfl, hx, hy⟩ q'
        refine ⟨t, _, rfl, SqT.of upd_same, rfl, _, _, rfl, _, _, rfl, rfl, rfl, yesI ?_⟩
        obtain ⟨d, d1, d2, d3⟩ := same_zip (H := H) (K := K) (n := m) a1 a2 hds hx hy
        have s3 := (s1.trans s2).trans (Same.new (o := .tup [x, y]) ht)
        exact ⟨_, rfl, _, rfl, x, y, d, rfl, dp_keep s3 d1, dp_keep s3 d2, d3, fun H4 s4 => q' H4 ((Same.new ht).trans s4)⟩
      · intro H' s2 hD'
        refine ⟨D, _, rfl, .inl (SqL.of hD'), rfl, flat_trues _, ?_⟩
        refine Q_bl (q H' (s1.trans s2)) ?_
        rw [in_trues]
        rfl
    | @tup av xv ds h1 a1 =>
      cases hu with
      | @tup au xu _ h2 a2 =>
      cases n with
      | zero => exact hd.elim
      | succ m =>
      obtain ⟨hlen, hds⟩ := hd
      have kv : Kind K H (.ref av) "tuple" := .tup h1
      have ku : Kind K H (.ref au) "tuple" := .tup h2
      refine ⟨_, rfl, rfl, _, rfl, ifF rfl ⟨_, rfl, rfl, _, rfl, ifF rfl ?_⟩⟩
      refine ⟨_, rfl, _, _, _, _, _, rfl, .ty _, ku.ty, ku.kit, _, rfl, ifF rfl ?_⟩
      refine ⟨_, rfl, _, _, _, _, _, rfl, .ty _, kv.ty, kv.kit, _, rfl, ifF rfl ?_⟩
      refine ⟨_, rfl, by show 2 ≤ sizeLine; decide, fun tp htp => ?_⟩
      have s1 := Same.new (o := .tup [.ty "int", .ty "str"]) htp
      have ku1 := ku.keep s1
      have kv1 := kv.keep s1
      refine ⟨_, tp, _, _, _, _, rfl, upd_same, .cons (.ty _) (.cons (.ty _) .nil), ku1.ty, ku1.kit2, _, rfl, ifF rfl ?_⟩
      refine ⟨_, rfl, _, _, _, _, _, rfl, .ty _, ku1.ty, ku1.kit, _, rfl, _, _, _, _, _, rfl, .ty _, kv1.ty, kv1.kit, rfl, _, rfl, ifF rfl ?_⟩
      refine ⟨_, rfl, _, _, _, _, _, rfl, .ty _, ku1.ty, ku1.kit, _, rfl, _, _, _, _, _, rfl, .ty _, kv1.ty, kv1.kit, rfl, _, rfl, ifF rfl ?_⟩
      have l1 := dpAll_len a1
      have l2 := dpAll_len a2
      refine ⟨_, rfl, _, _, rfl, .inr ⟨_, s1.tup h1, rfl⟩, _, rfl, _, _, rfl, .inr ⟨_, s1.tup h2, rfl⟩, rfl, _, rfl, ifF (by rw [l1, l2]; simp) ?_⟩
      refine ⟨_, rfl, _, rfl, av, au, xv, xu, rfl, .inr ⟨s1.tup h1, s1.tup h2, fun D hD => ?_⟩⟩
      refine lc_map (walk_zipT (n := ds.length) (by rw [l1, l2, Nat.min_self])) (fun _ => V.bl true) (by omega) hD (fun H' s2 => ⟨(s1.trans s2).tup h1, (s1.trans s2).tup h2⟩) ?_ ?_
      · rintro i z H' H'' Q' Z hi s2 ⟨t, x, y, rfl, ht, rfl, hx, hy⟩ q'
        refine ⟨t, _, rfl, SqT.of upd_same, rfl, _, _, rfl, _, _, rfl, rfl, rfl, yesI ?_⟩
        obtain ⟨d, d1, d2, d3⟩ := same_zip (H := H) (K := K) (n := m) a1 a2 hds hx hy
        have s3 := (s1.trans s2).trans (Same.new (o := .tup [x, y]) ht)
        exact ⟨_, rfl, _, rfl, x, y, d, rfl, dp_keep s3 d1, dp_keep s3 d2, d3, fun H4 s4 => q' H4 ((Same.new ht).trans s4)⟩
      · intro H' s2 hD'
        refine ⟨D, _, rfl, .inl (SqL.of hD'), rfl, flat_trues _, ?_⟩
        refine Q_bl (q H' (s1.trans s2)) ?_
        rw [in_trues]
        rfl
theorem ok_law_same (T : Txt K mg) : FnOk P w K mg base CX0 12 T.f_law_same T.d_law_same ["found", "due"] (sp_law_same K 11) := by
  have step : ∀ n, FnOk P w K mg base CX0 (n + 1) T.f_law_same T.d_law_same ["found", "due"] (sp_law_same K n) := by
    intro n
    induction n with
    | zero => exact ok_law_same__rec T 0 0 ⟨fun _ _ _ _ h => h.elim, fun _ _ _ _ _ _ _ _ _ _ _ _ _ h => h.elim⟩
    | succ m ih => exact ok_law_same__rec T (m + 1) (m + 1) ih
  exact step 11

theorem ok_is_name (T : Txt K mg) : FnOk P w K mg base CX0 2 T.f_is_name T.d_is_name ["thing"] (sp_is_name K) := by
  refine T.F_is_name.ok sc_is_name (fun vs H Q E h => ?_) (fun cdv A outer s H vs Q E hr h => ?_)
  · obtain ⟨v, t, rfl, _⟩ := h
    rfl
  · obtain ⟨v, t, rfl, k, hz, q⟩ := h
    refine ⟨_, (pss_one (ps_ret (pe_call (ok_is_text T) (hr.mono (by decide)) rfl T.g_is_text T.F_is_text.kp T.b_is_text .nil pass0 (pa_cons (pv 0) (pa_cons pe_int (pa_cons (pe_glob (v := .int 20) rfl T.g_NAME_MOST ⟨_, rfl⟩) pa_nil)))))), ?_⟩
    exact ⟨_, rfl, v, t, 1, 20, rfl, k, hz, q⟩
theorem ok_are_octets (T : Txt K mg) : FnOk P w K mg base CX0 2 T.f_are_octets T.d_are_octets ["thing"] (sp_are_octets K) := by
  refine T.F_are_octets.ok sc_are_octets (fun vs H Q E h => ?_) (fun cdv A outer s H vs Q E hr h => ?_)
  · obtain ⟨v, rfl, _⟩ := h
    rfl
  · obtain ⟨v, rfl, h⟩ := h
    refine ⟨_, (pss_one (ps_ret (pe_and (pe_callB call_isi rfl T.z_isinstance boot_isinstance (pa_cons (pv 0) (pa_cons (pe_bltn (v := .ty "list") rfl T.z_list boot_list rfl) pa_nil))) (pe_one (pe_callB (cr_all rfl) rfl T.z_all boot_all (pa_cons (pe_lc (own := [("octet", 1)]) (g := (gName 1)) (tt := tYes)  rfl sc_are_octets.nd (pi_list (pv 0)) (blkOk_by (own := [("octet", 1)]) (N := ["thing", "octet"]) (sc := defScope s_are_octets) (by decide +kernel)) (fun _ _ _ _ _ => (pg_name (i := 1) sc_are_octets.nd rfl (Or.inl rfl))) (fun _ _ _ _ _ => pts_nil) (fun _ _ _ _ _ => (pe_call (ok_is_between T) (hr.mono (by decide)) rfl T.g_is_between T.F_is_between.kp T.b_is_between .nil pass0 (pa_cons (pv 1) (pa_cons pe_int (pa_cons pe_int pa_nil)))))) pa_nil)))))), ?_⟩
    rcases h with ⟨a, xs, rfl, hs, hl, hk, q⟩ | ⟨t, k, ht, q⟩
    · have k : Kind K H (.ref a) "list" := .lst hs
      refine ⟨_, rfl, _, _, _, _, _, rfl, .ty _, k.ty, k.kit, _, rfl, ?_⟩
      refine iteT ?_
      refine ⟨_, rfl, a, rfl, ⟨xs, hs⟩, fun D hD => ?_⟩
      refine lc_map (walk_list (xs := xs)) (fun i => V.bl (btw (xs.getD i .non) 0 255)) (by omega) hD (fun _ s1 => s1.seq hs) ?_ ?_
      · rintro i y H' H'' Q' Z hi s1 ⟨rfl, hy⟩ q'
        refine ⟨rfl, yesI ?_⟩
        obtain ⟨ty, hty⟩ := hk y (List.mem_of_getElem? hy)
        refine ⟨_, rfl, y, ty, 0, 255, rfl, hty.keep s1, ?_⟩
        have := q' H'' (Same.refl _)
        rw [getD_of .non hy] at this
        exact this
      · intro H' s1 hD'
        refine ⟨_, xs.map fun x => btw x 0 255, rfl, .inl (.inl ?_), ?_⟩
        · rw [hD']
          have : (List.range xs.length).map (fun i => V.bl (btw (xs.getD i .non) 0 255)) = (xs.map fun x => btw x 0 255).map V.bl := by
            rw [List.map_map]
            exact range_map xs (fun c => V.bl (btw c 0 255)) .non
          rw [this]
        · refine Q_bl (q H' s1) ?_
          show xs.all _ = _
          simp [List.all_map]
    · refine ⟨_, rfl, _, _, _, _, _, rfl, .ty _, k.ty, k.kit, _, rfl, ifF ?_ (q H (Same.refl _))⟩
      cases k <;> first | rfl | (exfalso; revert ht; decide)
theorem ok_is_field (T : Txt K mg) : FnOk P w K mg base CX0 3 T.f_is_field T.d_is_field ["thing"] (sp_chk K dField) := by
  refine T.F_is_field.ok sc_is_field (fun vs H Q E h => ?_) (fun cdv A outer s H vs Q E hr h => ?_)
  · obtain ⟨v, d, rfl, _⟩ := h
    rfl
  · obtain ⟨v, d, rfl, hv, hw, q⟩ := h
    refine ⟨_, (pss_one (ps_ret (pe_and (pe_callB call_isi rfl T.z_isinstance boot_isinstance (pa_cons (pv 0) (pa_cons (pe_bltn (v := .ty "tuple") rfl T.z_tuple boot_tuple rfl) pa_nil))) (pe_and (pe_cmpR op_eq (pe_callB call_len rfl T.z_len boot_len (pa_cons (pv 0) pa_nil)) pe_int (nomark _)) (pe_and (pe_call (ok_is_name T) (hr.mono (by decide)) rfl T.g_is_name T.F_is_name.kp T.b_is_name .nil pass0 (pa_cons (pe_ix ix_tup (pv 0) pe_int (fun _ _ => rfl)) pa_nil)) (pe_one (pe_call (ok_is_value T) (hr.mono (by decide)) rfl T.g_is_value T.F_is_value.kp T.b_is_value .nil pass0 (pa_cons (pe_ix ix_tup (pv 0) pe_int (fun _ _ => rfl)) pa_nil)))))))), ?_⟩
    have k := hv.kind
    refine ⟨_, rfl, _, _, _, _, _, rfl, .ty _, k.ty, k.kit, _, rfl, ifb (fun e => ?_) (fun e => ?_)⟩
    · obtain ⟨a, xs, ds, rfl, rfl, hs, ha⟩ := hv.asT e
      refine ⟨_, rfl, _, _, rfl, .inr ⟨_, hs, rfl⟩, rfl, _, rfl, ifb (fun e2 => ?_) (fun e2 => ?_)⟩
      · obtain ⟨x0, x1, d0, d1, rfl, rfl, h0, h1⟩ := len2 ha (nAt (m := 2) e2)
        have w0 := w_tup (d := d0) (by simp) hw
        have w1 := w_tup (d := d1) (by simp) hw
        refine ⟨_, rfl, _, _, _, _, rfl, rfl, hs, rfl, x0, _, rfl, h0.kind, h0.strLe w0, fun H1 s1 => ⟨_, rfl, ifb (fun e3 => ?_) (fun e3 => ?_)⟩⟩
        · refine ⟨_, rfl, _, _, _, _, rfl, rfl, s1.tup hs, rfl, x1, _, rfl, (h1.keep s1).kind, h1.strLe w1, fun H2 s2 => ?_⟩
          refine Q_bl (q H2 (s1.trans s2)) ?_
          rw [h0.txt] at e3
          rw [h1.txt]
          show (dTxt d0 1 20 && dTxt d1 0 40) = _
          rw [e3]; rfl
        · refine Q_bl (q H1 s1) ?_
          rw [h0.txt] at e3
          show (dTxt d0 1 20 && dTxt d1 0 40) = _
          rw [e3]; rfl
      · exact Q_bl (q H (Same.refl _)) (dField_ne (by rw [← ha.len]; exact nNe (m := 2) e2))
    · exact Q_bl (q H (Same.refl _)) (dField_no e)
theorem ok_is_tuple_of_fields (T : Txt K mg) : FnOk P w K mg base CX0 4 T.f_is_tuple_of_fields T.d_is_tuple_of_fields ["thing", "most"] (sp_chkM K dFields) := by
  refine T.F_is_tuple_of_fields.ok sc_is_tuple_of_fields (fun vs H Q E h => ?_) (fun cdv A outer s H vs Q E hr h => ?_)
  · obtain ⟨v, d, m, rfl, _⟩ := h
    rfl
  · obtain ⟨v, d, m, rfl, hv, hw, q⟩ := h
    refine ⟨_, (pss_cons (ps_if (PW.pt (pw_or (pt_not (pt_val (pe_callB call_isi rfl T.z_isinstance boot_isinstance (pa_cons (pv 0) (pa_cons (pe_bltn (v := .ty "tuple") rfl T.z_tuple boot_tuple rfl) pa_nil))))) (pw_or1 (pt_cmpR op_gt (pe_callB call_len rfl T.z_len boot_len (pa_cons (pv 0) pa_nil)) (pv 1) (nomark _))))) (pss_one (ps_ret pe_bl)) pss_nil)
      (pss_one (ps_ret (pe_callB (cr_all rfl) rfl T.z_all boot_all (pa_cons (pe_lc (own := [("field", 2)]) (g := (gName 2)) (tt := tYes)  rfl sc_is_tuple_of_fields.nd (pi_tup (pv 0)) (blkOk_by (own := [("field", 2)]) (N := ["thing", "most", "field"]) (sc := defScope s_is_tuple_of_fields) (by decide +kernel)) (fun _ _ _ _ _ => (pg_name (i := 2) sc_is_tuple_of_fields.nd rfl (Or.inl rfl))) (fun _ _ _ _ _ => pts_nil) (fun _ _ _ _ _ => (pe_call (ok_is_field T) (hr.mono (by decide)) rfl T.g_is_field T.F_is_field.kp T.b_is_field .nil pass0 (pa_cons (pv 2) pa_nil)))) pa_nil))))), ?_⟩
    have k := hv.kind
    refine ⟨_, rfl, _, _, _, _, _, rfl, .ty _, k.ty, k.kit, _, rfl, ?_⟩
    refine ifb (fun e => ?_) (fun e => ?_)
    · exact iteT (Q_bl (q H (Same.refl _)) (dFields_no (nb e)))
    · obtain ⟨a, xs, ds, rfl, rfl, hs, ha⟩ := hv.asT (nb' e)
      have hlen := ha.len
      refine ⟨_, rfl, _, _, rfl, .inr ⟨_, hs, rfl⟩, _, rfl, _, _, rfl, rfl, _, rfl, ifb (fun e2 => ?_) (fun e2 => ?_)⟩
      · refine Q_bl (q H (Same.refl _)) ?_
        have e2' : (m : Int) < (xs.length : Int) := by simpa using e2
        show (decide (ds.length ≤ m) && _) = false
        rw [decide_eq_false (by omega), Bool.false_and]
      · have e2' : ¬ ((m : Int) < (xs.length : Int)) := by simpa using e2
        refine ⟨_, rfl, a, rfl, ⟨xs, hs⟩, fun D hD => ?_⟩
        refine lc_map (walk_tup (xs := xs)) (fun i => V.bl (dField (ds.getD i .none))) (by have := w_tupLen hw; omega) hD (fun _ s1 => s1.tup hs) ?_ ?_
        · rintro i y H' H'' Q' Z hi s1 ⟨rfl, hy⟩ q'
          refine ⟨rfl, yesI ?_⟩
          obtain ⟨d, hd, hdv⟩ := ha.at hy
          refine ⟨_, rfl, y, d, rfl, hdv.keep s1, w_tup (List.mem_of_getElem? hd) hw, fun H4 s4 => ?_⟩
          have := q' H4 s4
          rw [getD_of .none hd] at this
          exact this
        · intro H' s1 hD'
          refine ⟨_, ds.map dField, rfl, .inl (.inl (by rw [hD', tests_of dField ha])), ?_⟩
          refine Q_bl (q H' s1) ?_
          show (decide (ds.length ≤ m) && ds.all dField) = _
          rw [decide_eq_true (by omega), Bool.true_and, all_id]
theorem ok_are_fields (T : Txt K mg) : FnOk P w K mg base CX0 5 T.f_are_fields T.d_are_fields ["thing"] (sp_chk K (dFields 16)) := by
  refine T.F_are_fields.ok sc_are_fields (fun vs H Q E h => ?_) (fun cdv A outer s H vs Q E hr h => ?_)
  · obtain ⟨v, d, rfl, _⟩ := h
    rfl
  · obtain ⟨v, d, rfl, hv, hw, q⟩ := h
    refine ⟨_, (pss_one (ps_ret (pe_call (ok_is_tuple_of_fields T) (hr.mono (by decide)) rfl T.g_is_tuple_of_fields T.F_is_tuple_of_fields.kp T.b_is_tuple_of_fields .nil pass0 (pa_cons (pv 0) (pa_cons (pe_glob (v := .int 16) rfl T.g_FIELDS_MOST ⟨_, rfl⟩) pa_nil))))), ?_⟩
    exact ⟨_, rfl, v, d, 16, rfl, hv, hw, q⟩
theorem ok_is_setting (T : Txt K mg) : FnOk P w K mg base CX0 5 T.f_is_setting T.d_is_setting ["thing"] (sp_chk K dSetting) := by
  refine T.F_is_setting.ok sc_is_setting (fun vs H Q E h => ?_) (fun cdv A outer s H vs Q E hr h => ?_)
  · obtain ⟨v, d, rfl, _⟩ := h
    rfl
  · obtain ⟨v, d, rfl, hv, hw, q⟩ := h
    refine ⟨_, (pss_cons (ps_if (PW.pt (pw_or (pt_not (pt_val (pe_callB call_isi rfl T.z_isinstance boot_isinstance (pa_cons (pv 0) (pa_cons (pe_bltn (v := .ty "tuple") rfl T.z_tuple boot_tuple rfl) pa_nil))))) (pw_or1 (pt_cmpR op_ne (pe_callB call_len rfl T.z_len boot_len (pa_cons (pv 0) pa_nil)) pe_int (nomark _))))) (pss_one (ps_ret pe_bl)) pss_nil)
      (pss_cons (ps_asg (pv 0) (pg_tup rfl (pgs_cons (pg_name (i := 1) sc_is_setting.nd rfl (Or.inl rfl)) (pgs_cons (pg_name (i := 2) sc_is_setting.nd rfl (Or.inl rfl)) (pgs_cons (pg_name (i := 3) sc_is_setting.nd rfl (Or.inl rfl)) pgs_nil)))))
      (pss_cons (ps_if (pt_not (pt_val (pe_call (ok_is_tuple_of_fields T) (hr.mono (by decide)) rfl T.g_is_tuple_of_fields T.F_is_tuple_of_fields.kp T.b_is_tuple_of_fields .nil pass0 (pa_cons (pv 1) (pa_cons (pe_glob (v := .int 12) rfl T.g_FIXED_MOST ⟨_, rfl⟩) pa_nil))))) (pss_one (ps_ret pe_bl)) pss_nil)
      (pss_one (ps_ret (pe_and (pe_call (ok_is_between T) (hr.mono (by decide)) rfl T.g_is_between T.F_is_between.kp T.b_is_between .nil pass0 (pa_cons (pv 2) (pa_cons pe_int (pa_cons (pe_glob (v := .int 120) rfl T.g_ROOM_MOST ⟨_, rfl⟩) pa_nil)))) (pe_one (pe_call (ok_is_between T) (hr.mono (by decide)) rfl T.g_is_between T.F_is_between.kp T.b_is_between .nil pass0 (pa_cons (pv 3) (pa_cons pe_int (pa_cons (pe_glob (v := .int 4) rfl T.g_WAITING_MOST ⟨_, rfl⟩) pa_nil))))))))))), ?_⟩
    have k := hv.kind
    refine ⟨_, rfl, _, _, _, _, _, rfl, .ty _, k.ty, k.kit, _, rfl, ?_⟩
    refine ifb (fun e => ?_) (fun e => ?_)
    · exact iteT (Q_bl (q H (Same.refl _)) (dSetting_no (nb e)))
    · obtain ⟨a, xs, ds, rfl, rfl, hs, ha⟩ := hv.asT (nb' e)
      refine ⟨_, rfl, _, _, rfl, .inr ⟨_, hs, rfl⟩, rfl, _, rfl, ifb (fun e2 => ?_) (fun e2 => ?_)⟩
      · exact Q_bl (q H (Same.refl _)) (dSetting_ne (by rw [← ha.len]; exact nNe (m := 3) (nb e2)))
      · obtain ⟨x0, x1, x2, d0, d1, d2, rfl, rfl, h0, h1, h2⟩ := len3 ha (nAt (m := 3) (nb' e2))
        have w0 := w_tup (d := d0) (by simp) hw
        refine ⟨_, rfl, a, _, rfl, hs, rfl, ⟨_, _, rfl, ⟨_, _, rfl, ⟨_, _, rfl, rfl, ?_⟩⟩⟩⟩
        refine ⟨_, rfl, x0, d0, 12, rfl, h0, w0, fun H1 s1 => ⟨_, rfl, ifb (fun e3 => ?_) (fun e3 => ?_)⟩⟩
        · refine Q_bl (q H1 s1) ?_
          have e4 : dFields 12 d0 = false := by simpa using e3
          show (dFields 12 d0 && _ && _) = false
          rw [e4]; rfl
        · have e4 : dFields 12 d0 = true := by simpa using e3
          refine ⟨_, rfl, x1, _, 0, 120, rfl, (h1.keep s1).kind, _, rfl, ifb (fun e5 => ?_) (fun e5 => ?_)⟩
          · refine ⟨_, rfl, x2, _, 0, 4, rfl, (h2.keep s1).kind, Q_bl (q H1 s1) ?_⟩
            rw [h1.btw] at e5
            rw [h2.btw]
            show (dFields 12 d0 && dBtw d1 0 120 && dBtw d2 0 4) = _
            rw [e4, e5]; rfl
          · refine Q_bl (q H1 s1) ?_
            rw [h1.btw] at e5
            show (dFields 12 d0 && dBtw d1 0 120 && dBtw d2 0 4) = _
            rw [e4, e5]; rfl

theorem ok_law_between (T : Txt K mg) : FnOk P w K mg base CX0 1 T.f_law_between T.d_law_between ["value", "low", "high"] (sp_is_between K) := by
  refine T.F_law_between.ok sc_law_between (fun vs H Q E h => ?_) (fun cdv A outer s H vs Q E hr h => ?_)
  · obtain ⟨v, t, a, b, rfl, _⟩ := h
    rfl
  · obtain ⟨v, t, a, b, rfl, k, q⟩ := h
    refine ⟨_, (pss_one (ps_ret (pe_and (pe_callB call_isi rfl T.z_isinstance boot_isinstance (pa_cons (pv 0) (pa_cons (pe_bltn (v := .ty "int") rfl T.z_int boot_int rfl) pa_nil))) (pe_and (pe_not (pe_callB call_isi rfl T.z_isinstance boot_isinstance (pa_cons (pv 0) (pa_cons (pe_bltn (v := .ty "bool") rfl T.z_bool boot_bool rfl) pa_nil)))) (pe_one (pe_chain op_le op_le (pv 1) (pv 0) (pv 2))))))), ?_⟩
    refine ⟨_, rfl, _, _, _, _, _, rfl, .ty _, k.ty, k.kit, _, rfl, ifb (fun e => ?_) (fun e => ?_)⟩
    · refine ⟨_, rfl, _, _, _, _, _, rfl, .ty _, k.ty, k.kit, _, rfl, _, rfl, ifb (fun e2 => ?_) (fun e2 => ?_)⟩
      · have ei : t = "int" := by
          cases k <;> first | rfl | (exfalso; revert e e2; decide)
        cases k <;> first | (exact absurd ei (by decide)) | skip
        rename_i i
        refine ⟨_, rfl, _, rfl, _, _, rfl, rfl, _, rfl, ifb (fun e3 => ?_) (fun e3 => ?_)⟩
        · exact ⟨_, rfl, _, _, rfl, rfl, Q_bl q (by show (decide _ && decide _) = _; rw [e3]; rfl)⟩
        · exact Q_bl q (by show (decide _ && decide _) = _; rw [e3]; rfl)
      · refine Q_bl q ?_
        cases k <;> first | rfl | (exfalso; revert e e2; decide)
    · refine Q_bl q ?_
      cases k <;> first | rfl | (exfalso; revert e; decide)
theorem in_signs (c : Nat) : decide (c ∈ signs.cps.toList) = isChar c := by
  rw [signs_cps]
  unfold isChar
  rw [Bool.eq_iff_iff, decide_eq_true_iff, List.contains_iff_mem]
theorem ok_law_is_text (T : Txt K mg) : FnOk P w K mg base CX0 2 T.f_law_is_text T.d_law_is_text ["value", "least", "most"] (sp_chkT K) := by
  refine T.F_law_is_text.ok sc_law_is_text (fun vs H Q E h => ?_) (fun cdv A outer s H vs Q E hr h => ?_)
  · obtain ⟨v, d, a, b, rfl, _⟩ := h
    rfl
  · obtain ⟨v, d, a, b, rfl, hv, hw, q⟩ := h
    refine ⟨_, (pss_cons (ps_if (PW.pt (pw_or (pt_not (pt_val (pe_callB call_isi rfl T.z_isinstance boot_isinstance (pa_cons (pv 0) (pa_cons (pe_bltn (v := .ty "str") rfl T.z_str boot_str rfl) pa_nil))))) (pw_or1 (pt_not (pt_chain op_le op_le (pv 1) (pe_callB call_len rfl T.z_len boot_len (pa_cons (pv 0) pa_nil)) (pv 2)))))) (pss_one (ps_ret pe_bl)) pss_nil)
      (pss_one (ps_ret (pe_cmpR op_notIn_seq pe_bl (pe_lc (own := [("sign", 3)]) (g := (gName 3)) (tt := tYes)  rfl sc_law_is_text.nd (pi_str (pv 0)) (blkOk_by (own := [("sign", 3)]) (N := ["value", "least", "most", "sign"]) (sc := defScope s_law_is_text) (by decide +kernel)) (fun _ _ _ _ _ => (pg_name (i := 3) sc_law_is_text.nd rfl (Or.inl rfl))) (fun _ _ _ _ _ => pts_nil) (fun _ _ _ _ _ => (pe_cmpR op_in_sign (pv 3) (pe_call0 (ok_law_signs T) (hr.mono (by decide)) rfl T.g_law_signs T.F_law_signs.kp T.b_law_signs .nil pass0) rfl))) rfl)))), ?_⟩
    have k := hv.kind
    refine ⟨_, rfl, _, _, _, _, _, rfl, .ty _, k.ty, k.kit, _, rfl, ifb (fun e => ?_) (fun e => ?_)⟩
    · exact iteT (Q_bl (q H (Same.refl _)) (dTxt_no (nb e)))
    · obtain ⟨x, rfl, rfl⟩ := hv.asS (nb' e)
      have hx := hv.strLe hw x rfl
      refine ⟨_, rfl, _, rfl, _, _, rfl, ⟨len100 hx, rfl⟩, _, _, rfl, rfl, _, rfl, ifb (fun e2 => ?_) (fun e2 => ?_)⟩
      · refine ⟨_, rfl, _, _, rfl, rfl, _, rfl, ifb (fun e3 => ?_) (fun e3 => ?_)⟩
        · refine Q_bl (q H (Same.refl _)) ?_
          show (_ && _ && _) = false
          rw [nb e3, Bool.and_false, Bool.false_and]
        · have e3' := nb' e3
          refine ⟨_, rfl, _, rfl, fun D hD => ?_⟩
          refine lc_map walk_str (fun i => V.bl (isChar (x.cps.toList.getD i 0))) (by show x.length ≤ 1000000; omega) hD (fun _ _ => True.intro) ?_ ?_
          · rintro i y H' H'' Q' Z hi s1 ⟨rfl, c, hc, rfl⟩ q'
            refine ⟨rfl, yesI ?_⟩
            refine ⟨_, rfl, rfl, c, signs, rfl, rfl, ?_⟩
            have e4 : x.cps.toList.getD i 0 = c := getD_of 0 (cps_at hc)
            have := q' H'' (Same.refl _)
            rw [e4] at this
            rw [in_signs]
            exact this
          · intro H' s1 hD'
            have e5 : (List.range x.cps.size).map (fun i => V.bl (isChar (x.cps.toList.getD i 0))) = (x.cps.toList.map isChar).map V.bl := by
              rw [List.map_map]
              exact range_map x.cps.toList (fun c => V.bl (isChar c)) 0
            rw [e5] at hD'
            refine ⟨D, _, rfl, .inl (SqL.of hD'), rfl, flatB _, Q_bl (q H' s1) ?_⟩
            show (_ && _ && _) = (!inV (.bl false) ((x.cps.toList.map isChar).map V.bl))
            rw [e2, e3', inB (b := false), Bool.not_not, List.all_map]
            rfl
      · refine ⟨_, rfl, ?_⟩
        refine iteT (Q_bl (q H (Same.refl _)) ?_)
        show (_ && _ && _) = false
        rw [e2, Bool.false_and, Bool.false_and]
theorem ok_law_is_field (T : Txt K mg) : FnOk P w K mg base CX0 3 T.f_law_is_field T.d_law_is_field ["value"] (sp_chk K dField) := by
  refine T.F_law_is_field.ok sc_law_is_field (fun vs H Q E h => ?_) (fun cdv A outer s H vs Q E hr h => ?_)
  · obtain ⟨v, d, rfl, _⟩ := h
    rfl
  · obtain ⟨v, d, rfl, hv, hw, q⟩ := h
    refine ⟨_, (pss_cons (ps_if (PW.pt (pw_or (pt_not (pt_val (pe_callB call_isi rfl T.z_isinstance boot_isinstance (pa_cons (pv 0) (pa_cons (pe_bltn (v := .ty "tuple") rfl T.z_tuple boot_tuple rfl) pa_nil))))) (pw_or1 (pt_cmpR op_ne (pe_callB call_len rfl T.z_len boot_len (pa_cons (pv 0) pa_nil)) pe_int (nomark _))))) (pss_one (ps_ret pe_bl)) pss_nil)
      (pss_one (ps_ret (pe_and (pe_call (ok_law_is_text T) (hr.mono (by decide)) rfl T.g_law_is_text T.F_law_is_text.kp T.b_law_is_text .nil pass0 (pa_cons (pe_ix ix_tup (pv 0) pe_int (fun _ _ => rfl)) (pa_cons pe_int (pa_cons pe_int pa_nil)))) (pe_one (pe_call (ok_law_is_text T) (hr.mono (by decide)) rfl T.g_law_is_text T.F_law_is_text.kp T.b_law_is_text .nil pass0 (pa_cons (pe_ix ix_tup (pv 0) pe_int (fun _ _ => rfl)) (pa_cons pe_int (pa_cons pe_int pa_nil))))))))), ?_⟩
    have k := hv.kind
    refine ⟨_, rfl, _, _, _, _, _, rfl, .ty _, k.ty, k.kit, _, rfl, ifb (fun e => ?_) (fun e => ?_)⟩
    · exact iteT (Q_bl (q H (Same.refl _)) (dField_no (nb e)))
    · obtain ⟨a, xs, ds, rfl, rfl, hs, ha⟩ := hv.asT (nb' e)
      refine ⟨_, rfl, _, _, rfl, .inr ⟨_, hs, rfl⟩, rfl, _, rfl, ifb (fun e2 => ?_) (fun e2 => ?_)⟩
      · exact Q_bl (q H (Same.refl _)) (dField_ne (by rw [← ha.len]; exact nNe (m := 2) (nb e2)))
      · obtain ⟨x0, x1, d0, d1, rfl, rfl, h0, h1⟩ := len2 ha (nAt (m := 2) (nb' e2))
        have w0 := w_tup (d := d0) (by simp) hw
        have w1 := w_tup (d := d1) (by simp) hw
        refine ⟨_, rfl, _, _, _, _, rfl, rfl, hs, rfl, x0, d0, 1, 20, rfl, h0, w0, fun H1 s1 => ⟨_, rfl, ifb (fun e3 => ?_) (fun e3 => ?_)⟩⟩
        · refine ⟨_, rfl, _, _, _, _, rfl, rfl, s1.tup hs, rfl, x1, d1, 0, 40, rfl, h1.keep s1, w1, fun H2 s2 => Q_bl (q H2 (s1.trans s2)) ?_⟩
          show (dTxt d0 1 20 && dTxt d1 0 40) = _
          rw [e3]; rfl
        · refine Q_bl (q H1 s1) ?_
          show (dTxt d0 1 20 && dTxt d1 0 40) = _
          rw [e3]; rfl
theorem ok_law_are_fields (T : Txt K mg) : FnOk P w K mg base CX0 4 T.f_law_are_fields T.d_law_are_fields ["value"] (sp_chk K (dFields 16)) := by
  refine T.F_law_are_fields.ok sc_law_are_fields (fun vs H Q E h => ?_) (fun cdv A outer s H vs Q E hr h => ?_)
  · obtain ⟨v, d, rfl, _⟩ := h
    rfl
  · obtain ⟨v, d, rfl, hv, hw, q⟩ := h
    refine ⟨_, (pss_cons (ps_if (PW.pt (pw_or (pt_not (pt_val (pe_callB call_isi rfl T.z_isinstance boot_isinstance (pa_cons (pv 0) (pa_cons (pe_bltn (v := .ty "tuple") rfl T.z_tuple boot_tuple rfl) pa_nil))))) (pw_or1 (pt_cmpR op_gt (pe_callB call_len rfl T.z_len boot_len (pa_cons (pv 0) pa_nil)) pe_int (nomark _))))) (pss_one (ps_ret pe_bl)) pss_nil)
      (pss_one (ps_ret (pe_cmpR op_notIn_seq pe_bl (pe_lc (own := [("one", 1)]) (g := (gName 1)) (tt := tYes)  rfl sc_law_are_fields.nd (pi_tup (pv 0)) (blkOk_by (own := [("one", 1)]) (N := ["value", "one"]) (sc := defScope s_law_are_fields) (by decide +kernel)) (fun _ _ _ _ _ => (pg_name (i := 1) sc_law_are_fields.nd rfl (Or.inl rfl))) (fun _ _ _ _ _ => pts_nil) (fun _ _ _ _ _ => (pe_call (ok_law_is_field T) (hr.mono (by decide)) rfl T.g_law_is_field T.F_law_is_field.kp T.b_law_is_field .nil pass0 (pa_cons (pv 1) pa_nil)))) rfl)))), ?_⟩
    have k := hv.kind
    refine ⟨_, rfl, _, _, _, _, _, rfl, .ty _, k.ty, k.kit, _, rfl, ifb (fun e => ?_) (fun e => ?_)⟩
    · exact iteT (Q_bl (q H (Same.refl _)) (dFields_no (nb e)))
    · obtain ⟨a, xs, ds, rfl, rfl, hs, ha⟩ := hv.asT (nb' e)
      have hlen := ha.len
      refine ⟨_, rfl, _, _, rfl, .inr ⟨_, hs, rfl⟩, _, _, rfl, rfl, _, rfl, ifb (fun e2 => ?_) (fun e2 => ?_)⟩
      · refine Q_bl (q H (Same.refl _)) ?_
        have e2' : (16 : Int) < (xs.length : Int) := by simpa using e2
        show (decide (ds.length ≤ 16) && _) = false
        rw [decide_eq_false (by omega), Bool.false_and]
      · have e2' : ¬ ((16 : Int) < (xs.length : Int)) := by simpa using e2
        refine ⟨_, rfl, a, rfl, ⟨xs, hs⟩, fun D hD => ?_⟩
        refine lc_map (walk_tup (xs := xs)) (fun i => V.bl (dField (ds.getD i .none))) (by have := w_tupLen hw; omega) hD (fun _ s1 => s1.tup hs) ?_ ?_
        · rintro i y H' H'' Q' Z hi s1 ⟨rfl, hy⟩ q'
          refine ⟨rfl, yesI ?_⟩
          obtain ⟨d, hd, hdv⟩ := ha.at hy
          refine ⟨_, rfl, y, d, rfl, hdv.keep s1, w_tup (List.mem_of_getElem? hd) hw, fun H4 s4 => ?_⟩
          have := q' H4 s4
          rw [getD_of .none hd] at this
          exact this
        · intro H' s1 hD'
          rw [tests_of dField ha] at hD'
          refine ⟨D, _, rfl, .inl (SqL.of hD'), rfl, flatB _, Q_bl (q H' s1) ?_⟩
          show (decide (ds.length ≤ 16) && ds.all dField) = (!inV (.bl false) ((ds.map dField).map V.bl))
          rw [decide_eq_true (by omega), Bool.true_and, inB (b := false), Bool.not_not, all_id]
theorem ok_law_are_octets (T : Txt K mg) : FnOk P w K mg base CX0 2 T.f_law_are_octets T.d_law_are_octets ["value"] (sp_chk K dOctets) := by
  refine T.F_law_are_octets.ok sc_law_are_octets (fun vs H Q E h => ?_) (fun cdv A outer s H vs Q E hr h => ?_)
  · obtain ⟨v, d, rfl, _⟩ := h
    rfl
  · obtain ⟨v, d, rfl, hv, hw, q⟩ := h
    refine ⟨_, (pss_one (ps_ret (pe_and (pe_callB call_isi rfl T.z_isinstance boot_isinstance (pa_cons (pv 0) (pa_cons (pe_bltn (v := .ty "list") rfl T.z_list boot_list rfl) pa_nil))) (pe_one (pe_cmpR op_notIn_seq pe_bl (pe_lc (own := [("one", 1)]) (g := (gName 1)) (tt := tYes)  rfl sc_law_are_octets.nd (pi_list (pv 0)) (blkOk_by (own := [("one", 1)]) (N := ["value", "one"]) (sc := defScope s_law_are_octets) (by decide +kernel)) (fun _ _ _ _ _ => (pg_name (i := 1) sc_law_are_octets.nd rfl (Or.inl rfl))) (fun _ _ _ _ _ => pts_nil) (fun _ _ _ _ _ => (pe_call (ok_law_between T) (hr.mono (by decide)) rfl T.g_law_between T.F_law_between.kp T.b_law_between .nil pass0 (pa_cons (pv 1) (pa_cons pe_int (pa_cons pe_int pa_nil)))))) rfl))))), ?_⟩
    have k := hv.kind
    refine ⟨_, rfl, _, _, _, _, _, rfl, .ty _, k.ty, k.kit, _, rfl, ifb (fun e => ?_) (fun e => ?_)⟩
    · obtain ⟨a, xs, ds, rfl, rfl, hs, ha⟩ := hv.asL e
      refine ⟨_, rfl, a, rfl, ⟨xs, hs⟩, fun D hD => ?_⟩
      refine lc_map (walk_list (xs := xs)) (fun i => V.bl (dBtw (ds.getD i .none) 0 255)) (by have := w_lstLen hw; have := ha.len; omega) hD (fun _ s1 => s1.seq hs) ?_ ?_
      · rintro i y H' H'' Q' Z hi s1 ⟨rfl, hy⟩ q'
        refine ⟨rfl, yesI ?_⟩
        obtain ⟨d, hd, hdv⟩ := ha.at hy
        refine ⟨_, rfl, y, _, 0, 255, rfl, (hdv.keep s1).kind, ?_⟩
        have := q' H'' (Same.refl _)
        rw [getD_of .none hd] at this
        rw [hdv.btw]
        exact this
      · intro H' s1 hD'
        rw [tests_of (fun d => dBtw d 0 255) ha] at hD'
        refine ⟨D, _, rfl, .inl (SqL.of hD'), rfl, flatB _, Q_bl (q H' s1) ?_⟩
        show (ds.all fun d => dBtw d 0 255) = (!inV (.bl false) ((ds.map fun d => dBtw d 0 255).map V.bl))
        rw [inB (b := false), Bool.not_not, all_id]
    · exact Q_bl (q H (Same.refl _)) (dOctets_no e)
theorem ok_law_is_setting (T : Txt K mg) : FnOk P w K mg base CX0 4 T.f_law_is_setting T.d_law_is_setting ["value"] (sp_chk K dSetting) := by
  refine T.F_law_is_setting.ok sc_law_is_setting (fun vs H Q E h => ?_) (fun cdv A outer s H vs Q E hr h => ?_)
  · obtain ⟨v, d, rfl, _⟩ := h
    rfl
  · obtain ⟨v, d, rfl, hv, hw, q⟩ := h
    refine ⟨_, (pss_cons (ps_if (PW.pt (pw_or (pt_not (pt_val (pe_callB call_isi rfl T.z_isinstance boot_isinstance (pa_cons (pv 0) (pa_cons (pe_bltn (v := .ty "tuple") rfl T.z_tuple boot_tuple rfl) pa_nil))))) (pw_or (pt_cmpR op_ne (pe_callB call_len rfl T.z_len boot_len (pa_cons (pv 0) pa_nil)) pe_int (nomark _)) (pw_or (pt_not (pt_val (pe_callB call_isi rfl T.z_isinstance boot_isinstance (pa_cons (pe_ix ix_tup (pv 0) pe_int (fun _ _ => rfl)) (pa_cons (pe_bltn (v := .ty "tuple") rfl T.z_tuple boot_tuple rfl) pa_nil))))) (pw_or1 (pt_cmpR op_gt (pe_callB call_len rfl T.z_len boot_len (pa_cons (pe_ix ix_tup (pv 0) pe_int (fun _ _ => rfl)) pa_nil)) pe_int (nomark _))))))) (pss_one (ps_ret pe_bl)) pss_nil)
      (pss_cons (ps_if (pt_cmpR op_in_seq pe_bl (pe_lc (own := [("one", 1)]) (g := (gName 1)) (tt := tYes)  rfl sc_law_is_setting.nd (pi_tup (pe_ix ix_tup (pv 0) pe_int (fun _ _ => rfl))) (blkOk_by (own := [("one", 1)]) (N := ["value", "one"]) (sc := defScope s_law_is_setting) (by decide +kernel)) (fun _ _ _ _ _ => (pg_name (i := 1) sc_law_is_setting.nd rfl (Or.inl rfl))) (fun _ _ _ _ _ => pts_nil) (fun _ _ _ _ _ => (pe_call (ok_law_is_field T) (hr.mono (by decide)) rfl T.g_law_is_field T.F_law_is_field.kp T.b_law_is_field .nil pass0 (pa_cons (pv 1) pa_nil)))) rfl) (pss_one (ps_ret pe_bl)) pss_nil)
      (pss_one (ps_ret (pe_and (pe_call (ok_law_between T) (hr.mono (by decide)) rfl T.g_law_between T.F_law_between.kp T.b_law_between .nil pass0 (pa_cons (pe_ix ix_tup (pv 0) pe_int (fun _ _ => rfl)) (pa_cons pe_int (pa_cons pe_int pa_nil)))) (pe_one (pe_call (ok_law_between T) (hr.mono (by decide)) rfl T.g_law_between T.F_law_between.kp T.b_law_between .nil pass0 (pa_cons (pe_ix ix_tup (pv 0) pe_int (fun _ _ => rfl)) (pa_cons pe_int (pa_cons pe_int pa_nil)))))))))), ?_⟩
    have k := hv.kind
    refine ⟨_, rfl, _, _, _, _, _, rfl, .ty _, k.ty, k.kit, _, rfl, ifb (fun e => ?_) (fun e => ?_)⟩
    · exact iteT (Q_bl (q H (Same.refl _)) (dSetting_no (nb e)))
    · obtain ⟨a, xs, ds, rfl, rfl, hs, ha⟩ := hv.asT (nb' e)
      refine ⟨_, rfl, _, _, rfl, .inr ⟨_, hs, rfl⟩, rfl, _, rfl, ifb (fun e2 => ?_) (fun e2 => ?_)⟩
      · exact iteT (Q_bl (q H (Same.refl _)) (dSetting_ne (by rw [← ha.len]; exact nNe (m := 3) (nb e2))))
      · obtain ⟨x0, x1, x2, d0, d1, d2, rfl, rfl, h0, h1, h2⟩ := len3 ha (nAt (m := 3) (nb' e2))
        have w0 := w_tup (d := d0) (by simp) hw
        have k0 := h0.kind
        refine ⟨_, rfl, _, _, _, _, rfl, rfl, hs, rfl, _, _, _, _, _, rfl, .ty _, k0.ty, k0.kit, _, rfl, ifb (fun e3 => ?_) (fun e3 => ?_)⟩
        · refine iteT (Q_bl (q H (Same.refl _)) ?_)
          show (dFields 12 d0 && _ && _) = false
          rw [dFields_no (nb e3)]; rfl
        · obtain ⟨a0, xs0, ds0, rfl, rfl, hs0, ha0⟩ := h0.asT (nb' e3)
          have hlen := ha0.len
          refine ⟨_, rfl, _, _, _, _, rfl, rfl, hs, rfl, _, _, rfl, .inr ⟨_, hs0, rfl⟩, _, _, rfl, rfl, _, rfl, ifb (fun e4 => ?_) (fun e4 => ?_)⟩
          · refine Q_bl (q H (Same.refl _)) ?_
            have e4' : (12 : Int) < (xs0.length : Int) := by simpa using e4
            show ((decide (ds0.length ≤ 12) && _) && _ && _) = false
            rw [decide_eq_false (by omega)]; rfl
          · have e4' : ¬ ((12 : Int) < (xs0.length : Int)) := by simpa using e4
            refine ⟨_, rfl, _, _, _, _, rfl, rfl, hs, rfl, a0, rfl, ⟨xs0, hs0⟩, fun D hD => ?_⟩
            refine lc_map (walk_tup (xs := xs0)) (fun i => V.bl (dField (ds0.getD i .none))) (by have := w_tupLen w0; omega) hD (fun _ s1 => s1.tup hs0) ?_ ?_
            · rintro i y H' H'' Q' Z hi s1 ⟨rfl, hy⟩ q'
              refine ⟨rfl, yesI ?_⟩
              obtain ⟨d, hd, hdv⟩ := ha0.at hy
              refine ⟨_, rfl, y, d, rfl, hdv.keep s1, w_tup (List.mem_of_getElem? hd) w0, fun H4 s4 => ?_⟩
              have := q' H4 s4
              rw [getD_of .none hd] at this
              exact this
            · intro H' s1 hD'
              rw [tests_of dField ha0] at hD'
              refine ⟨D, _, rfl, .inl (SqL.of hD'), rfl, flatB _, _, rfl, ?_⟩
              have eF : dFields 12 (.tuple ds0) = ds0.all dField := by
                show (decide (ds0.length ≤ 12) && ds0.all dField) = _
                rw [decide_eq_true (by omega), Bool.true_and]
              have eI : inV (.bl false) ((ds0.map dField).map V.bl) = !ds0.all dField := by rw [inB (b := false), all_id]
              refine ifb (fun e5 => ?_) (fun e5 => ?_)
              · refine Q_bl (q H' s1) ?_
                show (dFields 12 (.tuple ds0) && _ && _) = false
                rw [eF, nb (eI.symm.trans e5)]; rfl
              · have e6 := nb' (eI.symm.trans e5)
                refine ⟨_, rfl, _, _, _, _, rfl, rfl, s1.tup hs, rfl, x1, _, 0, 120, rfl, (h1.keep s1).kind, _, rfl, ifb (fun e7 => ?_) (fun e7 => ?_)⟩
                · refine ⟨_, rfl, _, _, _, _, rfl, rfl, s1.tup hs, rfl, x2, _, 0, 4, rfl, (h2.keep s1).kind, Q_bl (q H' s1) ?_⟩
                  rw [h1.btw] at e7
                  rw [h2.btw]
                  show (dFields 12 (.tuple ds0) && dBtw d1 0 120 && dBtw d2 0 4) = _
                  rw [eF, e6, e7]; rfl
                · refine Q_bl (q H' s1) ?_
                  rw [h1.btw] at e7
                  show (dFields 12 (.tuple ds0) && dBtw d1 0 120 && dBtw d2 0 4) = _
                  rw [eF, e6, e7]; rfl

theorem ok_law_one_of__str (T : Txt K mg) : FnOk P w K mg base CX0 3 T.f_law_one_of T.d_law_one_of ["pen", "some"] sp_one_str := by
  refine T.F_law_one_of.ok sc_law_one_of (fun vs H Q E h => ?_) (fun cdv A outer s H vs Q E hr h => ?_)
  · obtain ⟨p, c, n, z, rfl, _⟩ := h
    rfl
  · obtain ⟨p, c, n, z, rfl, hp, hz0, hz, hn, q⟩ := h
    refine ⟨_, (pss_one (ps_ret (pe_ix ix_str (pv 1) (pe_call (ok_law_take T) (hr.mono (by decide)) rfl T.g_law_take T.F_law_take.kp T.b_law_take .nil pass0 (pa_cons (pv 0) (pa_cons (pe_callB call_len rfl T.z_len boot_len (pa_cons (pv 1) pa_nil)) pa_nil))) (fun _ _ => rfl)))), ?_⟩
    refine ⟨_, rfl, _, rfl, _, rfl, _, _, rfl, ⟨len100 (by omega), rfl⟩, ?_⟩
    refine ⟨p, c, n, z.length, rfl, hp, by omega, by omega, hn, fun r H' h0 h1 d => ?_⟩
    have e0 : z.length = z.cps.toList.length := str_len z
    have hr' : r.toNat < z.cps.toList.length := by omega
    have er : r = ((r.toNat : Nat) : Int) := by omega
    refine ⟨z, r, z.cps.toList[r.toNat], rfl, rfl, len100 (by omega), ?_, ?_⟩
    · exact at_ofN er (List.getElem?_eq_getElem hr')
    · exact q _ H' (List.getElem_mem hr') d
theorem ok_law_draw_field (T : Txt K mg) : FnOk P w K mg base CX0 5 T.f_law_draw_field T.d_law_draw_field ["pen"] (sp_drawV K 100 700 1 fun d => dField d = true) := by
  refine T.F_law_draw_field.ok sc_law_draw_field (fun vs H Q E h => ?_) (fun cdv A outer s H vs Q E hr h => ?_)
  · obtain ⟨p, c, n, S, rfl, _⟩ := h
    rfl
  · obtain ⟨p, c, n, S, rfl, hp, hn, pS, hS, q⟩ := h
    refine ⟨_, (pss_one (ps_ret (pe_tup (pa_cons (pe_call (ok_law_draw_text T) (hr.mono (by decide)) rfl T.g_law_draw_text T.F_law_draw_text.kp T.b_law_draw_text .nil pass0 (pa_cons (pv 0) (pa_cons pe_int (pa_cons pe_int pa_nil)))) (pa_cons (pe_call (ok_law_draw_text T) (hr.mono (by decide)) rfl T.g_law_draw_text T.F_law_draw_text.kp T.b_law_draw_text .nil pass0 (pa_cons (pv 0) (pa_cons pe_int (pa_cons pe_int pa_nil)))) pa_nil))))), ?_⟩
    refine ⟨_, rfl, p, c, n, 1, 20, rfl, hp, by omega, by decide, by decide, by decide, fun x H1 hx d1 => ?_⟩
    refine ⟨_, rfl, p, c, n + 50, 0, 40, rfl, d1.pen, by omega, by decide, by decide, by decide, fun y H2 hy d2 => ?_⟩
    refine ⟨by show 2 ≤ sizeLine; decide, fun t ht => ?_⟩
    have zx := sz_txt (b := 20) hx
    have zy := sz_txt (b := 40) hy
    refine q _ _ _ (new_tup ht ((hS.drew d1).drew d2) (.cons (.str x) (.cons (.str y) .nil))) (sz_tup' (k := 0) ?_ ?_ ?_) ?_ (((d1.trans d2).keep (Same.new ht)).mono (by omega))
    · rw [okVAll, okVAll, okVAll, zx.ok, zy.ok]; rfl
    · have := zx.w; have := zy.w
      rw [wVAll, wVAll, wVAll]; omega
    · exact depthAll_le fun d hd => by
        simp only [List.mem_cons, List.not_mem_nil, or_false] at hd
        rcases hd with rfl | rfl
        · exact zx.dp
        · exact zy.dp
    · show (dTxt (.str x) 1 20 && dTxt (.str y) 0 40) = true
      have e1 : dTxt (.str x) 1 20 = true := hx
      have e2 : dTxt (.str y) 0 40 = true := hy
      rw [e1, e2]; rfl
theorem ok_law_wrong_text (T : Txt K mg) : FnOk P w K mg base CX0 5 T.f_law_wrong_text T.d_law_wrong_text ["pen"] (sp_drawV K 60 1100 1 fun _ => True) := by
  refine T.F_law_wrong_text.ok sc_law_wrong_text (fun vs H Q E h => ?_) (fun cdv A outer s H vs Q E hr h => ?_)
  · obtain ⟨p, c, n, S, rfl, _⟩ := h
    rfl
  · obtain ⟨p, c, n, S, rfl, hp, hn, pS, hS, q⟩ := h
    refine ⟨_, (pss_cons (ps_set (i := 1) sc_law_wrong_text.nd rfl (Or.inl rfl) (pe_lst (pa_cons pe_non (pa_cons pe_int (pa_cons pe_bl (pa_cons (pe_lst (pa_cons pe_str pa_nil)) (pa_cons (pe_tup (pa_cons pe_str pa_nil)) (pa_cons pe_str (pa_cons pe_str (pa_cons (pe_op op_mul_str pe_str pe_int) (pa_cons pe_dnewK pa_nil)))))))))))
      (pss_cons (ps_set (i := 2) sc_law_wrong_text.nd rfl (Or.inl rfl) pe_str)
      (pss_cons (ps_set (i := 3) sc_law_wrong_text.nd rfl (Or.inl rfl) (pe_call (ok_law_draw_text T) (hr.mono (by decide)) rfl T.g_law_draw_text T.F_law_draw_text.kp T.b_law_draw_text .nil pass0 (pa_cons (pv 0) (pa_cons pe_int (pa_cons pe_int pa_nil)))))
      (pss_cons (ps_set (i := 4) sc_law_wrong_text.nd rfl (Or.inl rfl) (pe_call (ok_law_take T) (hr.mono (by decide)) rfl T.g_law_take T.F_law_take.kp T.b_law_take .nil pass0 (pa_cons (pv 0) (pa_cons (pe_callB call_len rfl T.z_len boot_len (pa_cons (pv 3) pa_nil)) pa_nil))))
      (pss_cons (ps_set (i := 5) sc_law_wrong_text.nd rfl (Or.inl rfl) (pe_op op_add_str (pe_op op_add_str (pe_slice sl_str (pv 3) po_none (po_some (pv 4))) (pe_call (ok_law_one_of__str T) (hr.mono (by decide)) rfl T.g_law_one_of T.F_law_one_of.kp T.b_law_one_of .nil pass0 (pa_cons (pv 0) (pa_cons (pv 2) pa_nil)))) (pe_slice sl_str (pv 3) (po_some (pe_op op_add (pv 4) pe_int)) po_none)))
      (pss_one (ps_ret (pe_call (ok_law_one_of T) (hr.mono (by decide)) rfl T.g_law_one_of T.F_law_one_of.kp T.b_law_one_of .nil pass0 (pa_cons (pv 0) (pa_cons (pe_op op_cat (pv 1) (pe_op op_rep (pe_lst (pa_cons (pv 5) pa_nil)) pe_int)) pa_nil)))))))))), ?_⟩
    refine ⟨by show 1 ≤ sizeLine; decide, fun l1 hl1 => ?_⟩
    have g1 := new_lst (K := K) hl1 hS (.cons (.str "a") .nil)
    have p1 := hp.new (o := .lst [.str "a"]) hl1
    have s1 := Same.new (o := .lst [.str "a"]) hl1
    refine ⟨by show 1 ≤ sizeLine; decide, fun t1 ht1 => ?_⟩
    have g2 := new_tup (K := K) ht1 (hS.keep s1) (.cons (.str "a") .nil)
    have p2 := p1.new (o := .tup [.str "a"]) ht1
    have s2 := Same.new (o := .tup [.str "a"]) ht1
    refine ⟨"a", 41, rfl, rfl, by decide, by decide, by decide, by decide, fun d1 hd1 => ?_⟩
    have g3 := new_dic (K := K) hd1 ((hS.keep s1).keep s2)
    have p3 := p2.new (o := .dK []) hd1
    have s3 := Same.new (o := .dK []) hd1
    refine ⟨by show 9 ≤ sizeLine; decide, fun L hL => ?_⟩
    have p4 := p3.new (o := .lst [.non, .int 7, .bl true, .ref l1, .ref t1, .str "a\n", .str "a\t", .str (repS "a" 41), .ref d1]) hL
    have s4 := Same.new (o := .lst [.non, .int 7, .bl true, .ref l1, .ref t1, .str "a\n", .str "a\t", .str (repS "a" 41), .ref d1]) hL
    have gL : upd (upd (upd (upd H l1 (.lst [.str "a"])) t1 (.tup [.str "a"])) d1 (.dK [])) L (.lst [.non, .int 7, .bl true, .ref l1, .ref t1, .str "a\n", .str "a\t", .str (repS "a" 41), .ref d1]) L = some (.lst [.non, .int 7, .bl true, .ref l1, .ref t1, .str "a\n", .str "a\t", .str (repS "a" 41), .ref d1]) := upd_same
    have nLp : L ≠ p := fun e => p3.some_ (e ▸ hL)
    have A := DvAll.cons .non (.cons (.int 7) (.cons (.bl true) (.cons (g1.keep ((s2.off.trans s3.off).trans s4.off)) (.cons (g2.keep (s3.off.trans s4.off)) (.cons (.str "a\n") (.cons (.str "a\t") (.cons (.str (repS "a" 41)) (.cons (g3.keep s4.off) .nil))))))))
    have s0 := ((s1.trans s2).trans s3).trans s4
    refine ⟨_, rfl, p, c, n, 1, 40, rfl, p4, by omega, by decide, by decide, by decide, fun x H5 hx d5 => ?_⟩
    have hxl : 0 < x.length ∧ x.length ≤ 40 := by
      have h' : (decide ((1 : Int) ≤ (x.length : Int)) && decide ((x.length : Int) ≤ 40) && x.cps.toList.all isChar) = true := hx
      simp only [Bool.and_eq_true, decide_eq_true_eq] at h'
      omega
    refine ⟨_, rfl, _, rfl, _, _, rfl, ⟨len100 (by omega), rfl⟩, p, c, n + 50, _, rfl, d5.pen, by omega, by omega, by omega, fun r H6 hr0 hr1 d6 => ?_⟩
    refine ⟨_, rfl, _, rfl, _, rfl, x, rfl, len100 (by omega), _, rfl, _, rfl, p, c, n + 51, otherSigns, rfl, d6.pen, by decide, by decide, by omega, fun z H7 hz d7 => ?_⟩
    have l1' := cutS_len x none (some r)
    have lz : (⟨#[z]⟩ : Str).length = 1 := rfl
    refine ⟨_, _, rfl, rfl, by rw [sizeLine_eq]; omega, ?_⟩
    refine ⟨_, rfl, _, rfl, _, _, rfl, rfl, _, rfl, x, rfl, len100 (by omega), ?_⟩
    have l2' := cutS_len x (some (r + 1)) none
    refine ⟨_, _, rfl, rfl, by rw [strLen_append, sizeLine_eq]; omega, ?_⟩
    refine ⟨_, rfl, _, rfl, _, rfl, by show 1 ≤ sizeLine; decide, fun b1 hb1 => ?_⟩
    have p7 := d7.pen
    have n1 : L ≠ b1 := ne_of_none (d7.but _ _ nLp (d6.but _ _ nLp (d5.but _ _ nLp gL))) hb1
    refine ⟨b1, 9, _, rfl, rfl, upd_same, by decide, by decide, by show 9 ≤ sizeLine; decide, fun b2 hb2 => ?_⟩
    have gL7 := d7.but _ _ nLp (d6.but _ _ nLp (d5.but _ _ nLp gL))
    have n2 : L ≠ b2 := ne_of_none (by rw [upd_ne n1]; exact gL7) hb2
    refine ⟨L, b2, _, _, rfl, rfl, by rw [upd_ne n2, upd_ne n1]; exact gL7, upd_same, by show 18 ≤ sizeLine; decide, fun b3 hb3 => ?_⟩
    have d567 := (d5.trans d6).trans d7
    have sb : Same H7 _ := ((Same.new hb1).trans (Same.new hb2)).trans (Same.new (o := .lst ([.non, .int 7, .bl true, .ref l1, .ref t1, .str "a\n", .str "a\t", .str (repS "a" 41), .ref d1] ++ (List.replicate (9 : Int).toNat [V.str (cutS x none (some r) ++ ⟨#[z]⟩ ++ cutS x (some (r + 1)) none)]).flatten)) hb3)
    refine ⟨p, c, b3, n + 52, _, rfl, d567.pen.keep sb, SqL.of upd_same, ?_, by simp, by show 18 ≤ 1000; decide, by omega, fun v H8 hv d8 => ?_⟩
    · exact fun e => (d567.pen.some_) (e ▸ ((Same.new hb1).trans (Same.new hb2)).free hb3)
    have A8 := A.keep (((d567.off pS).trans sb.off).trans (d8.off pS))
    have hbad : Dv K (OffS S H8) (.str (cutS x none (some r) ++ ⟨#[z]⟩ ++ cutS x (some (r + 1)) none)) (.str (cutS x none (some r) ++ ⟨#[z]⟩ ++ cutS x (some (r + 1)) none)) := .str _
    have B : DvAll K (OffS S H8) ((List.replicate (9 : Int).toNat [V.str (cutS x none (some r) ++ ⟨#[z]⟩ ++ cutS x (some (r + 1)) none)]).flatten) (List.replicate 9 (.str (cutS x none (some r) ++ ⟨#[z]⟩ ++ cutS x (some (r + 1)) none))) := DvAll.rep hbad 9
    obtain ⟨d, hd, hdv⟩ := (A8.app B).mem hv
    have zd : Sz 1100 1 d := by
      rcases List.mem_append.mp hd with hd | hd
      · simp only [List.mem_cons, List.not_mem_nil, or_false] at hd
        rcases hd with rfl | rfl | rfl | rfl | rfl | rfl | rfl | rfl | rfl
        · exact ⟨rfl, by decide, by decide⟩
        · exact (sz_int (by decide)).mono (by decide) (by decide)
        · exact ⟨rfl, by decide, by decide⟩
        · exact ⟨by decide, by decide, by decide⟩
        · exact ⟨by decide, by decide, by decide⟩
        · exact ⟨by decide, by decide, by decide⟩
        · exact ⟨by decide, by decide, by decide⟩
        · exact ⟨by decide, by decide, by decide⟩
        · exact ⟨by decide, by decide, by decide⟩
      · rw [(List.mem_replicate.mp hd).2]
        refine (sz_str ?_ (Nat.le_refl _)).mono ?_ (by decide)
        · refine small_app (small_app (small_cut (chars_small (txt_all hx))) ?_) (small_cut (chars_small (txt_all hx)))
          have := List.all_eq_true.mp other_small z hz
          show [z].all _ = true
          rw [List.all_cons, this]; rfl
        · rw [strLen_append, strLen_append]; omega
    exact q v d H8 hdv zd True.intro ⟨d8.pen.mono (by omega), ((But.of s0).trans (d567.but.trans (But.of sb))).trans d8.but⟩

theorem ok_law_bent__rec (T : Txt K mg) (m : Nat) (G : FnOk P w K mg base CX0 (m + 5) T.f_law_bent T.d_law_bent ["pen", "value"] (sp_bent_sub K m)) : FnOk P w K mg base CX0 (m + 6) T.f_law_bent T.d_law_bent ["pen", "value"] (sp_bent K m) := by
  refine T.F_law_bent.ok sc_law_bent (fun vs H Q E h => ?_) (fun cdv A outer s H vs Q E hr h => ?_)
  · obtain ⟨p, c, n, v, d, b, e, S, rfl, _⟩ := h
    rfl
  · obtain ⟨p, c, n, v, d, b, e, S, rfl, hp, hn, pS, hS, hv, hz, hem, hm20, hb, q⟩ := h
    refine ⟨_, (pss_cons (ps_if (PW.pt (pw_or (pt_not (pt_val (pe_callB call_isiT rfl T.z_isinstance boot_isinstance (pa_cons (pv 1) (pa_cons (pe_tup (pa_cons (pe_bltn (v := .ty "tuple") rfl T.z_tuple boot_tuple rfl) (pa_cons (pe_bltn (v := .ty "list") rfl T.z_list boot_list rfl) pa_nil))) pa_nil))))) (pw_or (pt_cmpR op_eq (pe_callB call_len rfl T.z_len boot_len (pa_cons (pv 1) pa_nil)) pe_int (nomark _)) (pw_or1 (pt_cmpR op_eq (pe_call (ok_law_take T) (hr.mono (by omega)) rfl T.g_law_take T.F_law_take.kp T.b_law_take .nil pass0 (pa_cons (pv 0) (pa_cons pe_int pa_nil))) pe_int (nomark _)))))) (pss_cons (ps_set (i := 2) sc_law_bent.nd rfl (Or.inl rfl) (pe_lst (pa_cons pe_non (pa_cons pe_bl (pa_cons pe_bl (pa_cons (pe_un un_neg pe_int) (pa_cons pe_int (pa_cons pe_int (pa_cons pe_int (pa_cons pe_int (pa_cons pe_int (pa_cons pe_str (pa_cons (pe_op op_mul_str pe_str pe_int) (pa_cons (pe_op op_mul_str pe_str pe_int) (pa_cons (pe_op op_mul_str pe_str pe_int) (pa_cons (pe_tup pa_nil) (pa_cons (pe_lst pa_nil) (pa_cons pe_dnewK (pa_cons (pe_tup (pa_cons pe_str pa_nil)) pa_nil)))))))))))))))))))
      (pss_one (ps_ret (pe_call (ok_law_one_of T) (hr.mono (by omega)) rfl T.g_law_one_of T.F_law_one_of.kp T.b_law_one_of .nil pass0 (pa_cons (pv 0) (pa_cons (pe_op op_cat (pv 2) (pe_lst (pa_cons (pe_call (ok_law_wrong_text T) (hr.mono (by omega)) rfl T.g_law_wrong_text T.F_law_wrong_text.kp T.b_law_wrong_text .nil pass0 (pa_cons (pv 0) pa_nil)) (pa_cons (pe_tup (pa_cons pe_str (pa_cons pe_str pa_nil))) (pa_cons (pe_lst (pa_cons pe_str (pa_cons pe_str pa_nil))) (pa_cons (pe_tup (pa_cons pe_str (pa_cons pe_str pa_nil))) (pa_cons (pe_tup (pa_cons pe_str (pa_cons pe_str pa_nil))) pa_nil))))))) pa_nil)))))) pss_nil)
      (pss_cons (ps_par (i := 3) (j := 4) rfl sc_law_bent.nd rfl rfl (by decide) rfl rfl (pa_cons (pe_call (ok_law_take T) (hr.mono (by omega)) rfl T.g_law_take T.F_law_take.kp T.b_law_take .nil pass0 (pa_cons (pv 0) (pa_cons (pe_callB call_len rfl T.z_len boot_len (pa_cons (pv 1) pa_nil)) pa_nil))) (pa_cons (pe_call (ok_law_take T) (hr.mono (by omega)) rfl T.g_law_take T.F_law_take.kp T.b_law_take .nil pass0 (pa_cons (pv 0) (pa_cons pe_int pa_nil))) pa_nil)) (by rfl))
      (pss_cons (ps_set (i := 5) sc_law_bent.nd rfl (Or.inl rfl) (pe_callTy call_list_of rfl T.z_list boot_list (pa_cons (pv 1) pa_nil)))
      (pss_cons (ps_if (pt_cmpR op_lt (pv 4) pe_int (nomark _)) (pss_one (ps_asg (pe_call G hr rfl T.g_law_bent T.F_law_bent.kp T.b_law_bent .nil pass0 (pa_cons (pv 0) (pa_cons (pe_ix ix_list (pv 5) (pv 3) (fun _ _ => rfl)) pa_nil))) (pg_sub (pv 5) (pv 3) set_list))) (pss_one (ps_if (pt_cmpR op_eq (pv 4) pe_int (nomark _)) (pss_one (ps_expr (pe_bm PySem.F.plainAttrs_list PySem.F.slot_list_pop PySem.F.type_list_pop mt_popAt (pv 5) (pa_cons (pv 3) pa_nil)))) (pss_one (ps_if (pt_cmpR op_eq (pv 4) pe_int (nomark _)) (pss_one (ps_expr (pe_bm PySem.F.plainAttrs_list PySem.F.slot_list_insert PySem.F.type_list_insert mt_insert (pv 5) (pa_cons (pv 3) (pa_cons (pe_ix ix_list (pv 5) (pv 3) (fun _ _ => rfl)) pa_nil))))) (pss_one (ps_if (pt_cmpR op_eq (pv 4) pe_int (nomark _)) (pss_one (ps_ret (pe_ifExp (pt_val (pe_callB call_isi rfl T.z_isinstance boot_isinstance (pa_cons (pv 1) (pa_cons (pe_bltn (v := .ty "tuple") rfl T.z_tuple boot_tuple rfl) pa_nil)))) (pe_callTy call_list_of rfl T.z_list boot_list (pa_cons (pv 1) pa_nil)) (pe_callTy call_tuple_of rfl T.z_tuple boot_tuple (pa_cons (pv 1) pa_nil))))) pss_nil)))))))
      (pss_one (ps_ret (pe_ifExp (pt_val (pe_callB call_isi rfl T.z_isinstance boot_isinstance (pa_cons (pv 1) (pa_cons (pe_bltn (v := .ty "tuple") rfl T.z_tuple boot_tuple rfl) pa_nil)))) (pe_callTy call_tuple_of rfl T.z_tuple boot_tuple (pa_cons (pv 5) pa_nil)) (pv 5)))))))), ?_⟩
    apply with_leaf (R := fun H1 => Drew p c H H1 (n + 1))
    case m =>
      intro leaf
      refine ⟨_, rfl, by show 2 ≤ sizeLine; decide, fun tp htp => ?_⟩
      have s1 := Same.new (o := .tup [.ty "tuple", .ty "list"]) htp
      have k1 := (hv.on.keep s1).kind
      have D1 : Drew p c H (upd H tp (.tup [.ty "tuple", .ty "list"])) (n + 1) := ⟨(hp.new htp).mono (by omega), But.new htp⟩
      refine ⟨_, tp, _, _, _, _, rfl, upd_same, .cons (.ty _) (.cons (.ty _) .nil), k1.ty, k1.kit2, _, rfl, ifb (fun e1 => ?_) (fun e1 => ?_)⟩
      · exact ifT rfl (leaf _ D1)
      obtain ⟨a, xs, ds, rfl, hsq, ha⟩ := (hv.keep s1.off).seqs (nb' e1)
      have hsq1 : (SqT K (upd H tp (.tup [.ty "tuple", .ty "list"])) a xs ∧ d = .tuple ds) ∨ (SqL K (upd H tp (.tup [.ty "tuple", .ty "list"])) a xs ∧ d = .list ds) := by
        rcases hsq with h | h
        · exact .inl ⟨(off_sub S _).tup h.1, h.2⟩
        · exact .inr ⟨(off_sub S _).seq h.1, h.2⟩
      refine ⟨_, rfl, _, _, rfl, seq_len hsq1, rfl, _, rfl, ifb (fun e2 => ?_) (fun e2 => ?_)⟩
      · exact ifT rfl (leaf _ D1)
      have hlen := ha.len
      have hpos : 0 < xs.length := by
        have := nNe (m := 0) e2
        omega
      have hzd : ∃ e', e = e' + 1 ∧ okVAll ds = true ∧ wVAll ds + 4 ≤ b ∧ PyData.depthAll ds ≤ e' := by
        have hd0 : 0 < e := by
          rcases Nat.eq_zero_or_pos e with h0 | h0
          · have := depth0 (d := d) (by have := hz.dp; omega)
            rcases hsq with h | h
            · rw [h.2] at this; cases (show true = false from this.1)
            · rw [h.2] at this; cases (show true = false from this.2)
          · exact h0
        refine ⟨e - 1, by omega, ?_⟩
        have hz' : Sz b (e - 1 + 1) d := by
          have e0 : e - 1 + 1 = e := by omega
          rw [e0]; exact hz
        rcases hsq with h | h
        · rw [h.2] at hz'; exact sz_tup hz'
        · rw [h.2] at hz'; exact sz_lst hz'
      obtain ⟨e', rfl, zo, zw, zd⟩ := hzd
      have hll := wVAll_len ds
      refine ⟨_, rfl, p, c, n, 6, rfl, hp.new htp, by omega, by omega, by omega, fun r2 H2 hr20 hr21 d2 => ?_⟩
      have D2 : Drew p c H H2 (n + 1) := ⟨d2.pen, (But.new htp).trans d2.but⟩
      refine ⟨rfl, _, rfl, ifb (fun e3 => ?_) (fun e3 => ?_)⟩
      · exact leaf _ D2
      have hsq2 : (SqT K H2 a xs ∧ d = .tuple ds) ∨ (SqL K H2 a xs ∧ d = .list ds) := by
        rcases hsq with h | h
        · exact .inl ⟨(off_sub S _).tup ((d2.off pS).tup h.1), h.2⟩
        · exact .inr ⟨(off_sub S _).seq ((d2.off pS).seq h.1), h.2⟩
      refine ⟨_, rfl, _, rfl, _, _, rfl, seq_len hsq2, p, c, n + 1, _, rfl, d2.pen, by omega, by omega, by omega, fun kk H3 hk0 hk1 d3 => ?_⟩
      obtain ⟨k, rfl⟩ : ∃ k : Nat, kk = (k : Int) := ⟨kk.toNat, by omega⟩
      have hk : k < xs.length := by omega
      refine ⟨_, rfl, p, c, n + 2, 9, rfl, d3.pen, by omega, by omega, by omega, fun way H4 hw0 hw1 d4 => ?_⟩
      refine ⟨_, _, rfl, ?_⟩
      have D4 : Drew p c H H4 (n + 3) := ⟨d4.pen, ((But.new htp).trans d2.but).trans (d3.but.trans d4.but)⟩
      have sO : Same (OffS S (upd H tp (.tup [.ty "tuple", .ty "list"]))) (OffS S H4) := ((d2.off pS).trans (d3.off pS)).trans (d4.off pS)
      have hsq4 : (SqT K H4 a xs ∧ d = .tuple ds) ∨ (SqL K H4 a xs ∧ d = .list ds) := by
        rcases hsq with h | h
        · exact .inl ⟨(off_sub S _).tup (sO.tup h.1), h.2⟩
        · exact .inr ⟨(off_sub S _).seq (sO.seq h.1), h.2⟩
      have ha4 := ha.keep sO
      refine ⟨_, rfl, a, xs, rfl, ?_, fun l hl => ?_⟩
      · rcases hsq4 with h | h
        · exact .inr h.1
        · exact .inl h.1
      have D5 := D4.keep (Same.new (o := .lst xs) hl)
      have lS : l ∉ S := (hS.drew D4).not hl
      have lp : l ≠ p := fun e => lS (e ▸ pS)
      have ha5 : DvAll K (OffS (l :: S) (upd H4 l (.lst xs))) xs ds := ha4.keep ((off_more hl).trans (Same.new hl).off)
      have gl : upd H4 l (.lst xs) l = some (.lst xs) := upd_same
      have s45 : Same H4 (upd H4 l (.lst xs)) := Same.new hl
      generalize upd H4 l (.lst xs) = H5 at D5 ha5 gl s45 ⊢
      have hS5 : Hid (l :: S) H5 := (hS.drew D5).cons (by rw [gl]; exact fun z => nomatch z)
      have pS5 : p ∈ l :: S := List.mem_cons_of_mem _ pS
      have hsq5 : (SqT K H5 a xs ∧ d = .tuple ds) ∨ (SqL K H5 a xs ∧ d = .list ds) := by
        rcases hsq4 with h | h
        · exact .inl ⟨s45.tup h.1, h.2⟩
        · exact .inr ⟨s45.seq h.1, h.2⟩
      obtain ⟨x, hx⟩ : ∃ x, xs[k]? = some x := ⟨xs[k], List.getElem?_eq_getElem hk⟩
      obtain ⟨dx, hdx, hdv⟩ := ha5.at hx
      have zx := wVAll_mem (List.mem_of_getElem? hdx)
      have zx2 : Sz (wV dx) e' dx := ⟨okVAll_mem zo (List.mem_of_getElem? hdx), Nat.le_refl _, Nat.le_trans (depthAll_mem (List.mem_of_getElem? hdx)) zd⟩
      have kd5 := (hv.keep (D5.off pS)).on.kind
      apply with_leaf (R := fun H' => ∃ ys es, H' l = some (.lst ys) ∧ DvAll K (OffS S H') ys es ∧ Drew p c H H' (n + 100 * (e' + 1 + 1)) ∧ okVAll es = true ∧ wVAll es + 4 ≤ 2 * b + 2000 ∧ PyData.depthAll es ≤ e' + 1)
      case m =>
        intro fin
        refine ⟨_, rfl, _, _, rfl, rfl, _, rfl, ifb (fun e4 => ?_) (fun e4 => ?_)⟩
        · refine ⟨_, rfl, _, rfl, _, rfl, _, _, _, _, rfl, rfl, SqL.of gl, atI_nat hx, ?_⟩
          cases m with
          | zero => omega
          | succ m' =>
          refine ⟨p, c, n + 3, x, dx, wV dx, e', l :: S, rfl, D5.pen, by omega, pS5, hS5, hdv, zx2, by omega, by omega, by omega, fun v' d' H6 hv6 z6 d6 => ?_⟩
          have gl6 := d6.but _ _ lp gl
          refine ⟨_, rfl, _, rfl, l, xs, k, k, rfl, rfl, gl6, ixN_n hk, ?_⟩
          have hs := wVAll_set (e := d') hdx
          have n6 : p ≠ l := fun e => lp e.symm
          have nc6 : c ≠ l := fun e => (by
            have hcl := D4.pen.nec hl
            exact hcl e)
          refine fin _ ⟨xs.set k v', ds.set k d', upd_same, (DvAll.set hv6 k (ha5.keep (d6.off pS5))).keep off_put, ⟨(d6.pen.upd n6 nc6).mono (by omega), ?_⟩, okVAll_set zo z6.ok, ?_, depthAll_set (Nat.le_trans zd (by omega)) z6.dp⟩
          · intro b0 u nb0 e0
            have hb0 : b0 ≠ l := ne_of_none (D4.but b0 u nb0 e0) hl
            rw [upd_ne hb0]
            exact d6.but b0 u nb0 (D5.but b0 u nb0 e0)
          · have := z6.w; omega
        · have n6 : p ≠ l := fun e => lp e.symm
          have nc6 : c ≠ l := D4.pen.nec hl
          have turn : ∀ o, Drew p c H (upd H5 l o) (n + 100 * (e' + 1 + 1)) := fun o => ⟨(D5.pen.upd n6 nc6).mono (by omega), fun b0 u nb0 e0 => by
            have hb0 : b0 ≠ l := ne_of_none (D4.but b0 u nb0 e0) hl
            rw [upd_ne hb0]
            exact D5.but b0 u nb0 e0⟩
          refine ⟨_, rfl, rfl, _, rfl, ifb (fun e5 => ?_) (fun e5 => ?_)⟩
          · refine ⟨_, rfl, .inl ⟨rfl, _, SqL.of gl⟩, _, rfl, l, xs, k, k, x, rfl, rfl, gl, by omega, by omega, ?_, hx, ?_⟩
            · rw [seqIndex_of (by omega) (by omega), Int.toNat_natCast]
            · refine fin _ ⟨xs.eraseIdx k, ds.eraseIdx k, upd_same, (ha5.erase k).keep off_put, turn _, okVAll_erase zo, ?_, depthAll_erase (Nat.le_trans zd (by omega))⟩
              have := wVAll_erase ds k
              omega
          · refine ⟨_, rfl, rfl, _, rfl, ifb (fun e6 => ?_) (fun e6 => ?_)⟩
            · refine ⟨_, rfl, .inl ⟨rfl, _, SqL.of gl⟩, _, rfl, _, rfl, _, rfl, _, _, _, _, rfl, rfl, SqL.of gl, atI_nat hx, l, xs, k, x, rfl, rfl, gl, ?_, by omega, by omega, ?_⟩
              · rw [sizeLine_eq]; omega
              · rw [Int.toNat_natCast]
                refine fin _ ⟨_, insD ds k dx, upd_same, (ha5.ins k hdv).keep off_put, turn _, okVAll_ins zo zx2.ok, ?_, depthAll_ins (Nat.le_trans zd (by omega)) (Nat.le_trans zx2.dp (by omega))⟩
                rw [wVAll_ins]
                omega
            · refine ⟨_, rfl, rfl, _, rfl, ifb (fun e7 => ?_) (fun e7 => ?_)⟩
              · refine ⟨_, rfl, _, _, _, _, _, rfl, .ty _, kd5.ty, kd5.kit, _, rfl, ifb (fun e8 => ?_) (fun e8 => ?_)⟩
                · refine ⟨_, rfl, a, xs, rfl, ?_, fun g hg => ?_⟩
                  · rcases hsq5 with h | h
                    · exact .inr h.1
                    · exact .inl h.1
                  · refine q _ _ _ (new_lst hg (hS.drew D5) (ha5.keep off_less)) (sz_lst' zo (by omega) (Nat.le_trans zd (by omega))) ((D5.keep (Same.new hg)).mono (by omega))
                · refine ⟨_, rfl, a, xs, rfl, ?_⟩
                  rcases hsq5 with h | h
                  · rw [h.2, sub_tup] at e8; cases e8
                  · refine .inl ⟨h.1, fun g hg => ?_⟩
                    exact q _ _ _ (new_tup hg (hS.drew D5) (ha5.keep off_less)) (sz_tup' zo (by omega) (Nat.le_trans zd (by omega))) ((D5.keep (Same.new hg)).mono (by omega))
              · exact fin _ ⟨xs, ds, gl, ha5.keep off_less, D5.mono (by omega), zo, by omega, Nat.le_trans zd (by omega)⟩
      case h =>
        rintro H6 ⟨ys, es, g6, hys, D6, o6, w6, z6⟩
        have kd6 := (hv.keep (D6.off pS)).on.kind
        refine ⟨_, rfl, _, _, _, _, _, rfl, .ty _, kd6.ty, kd6.kit, _, rfl, ifb (fun e8 => ?_) (fun e8 => ?_)⟩
        · refine ⟨_, rfl, l, ys, rfl, .inl ⟨SqL.of g6, fun g hg => ?_⟩⟩
          exact q _ _ _ (new_tup hg (hS.drew D6) hys) (sz_tup' o6 w6 z6) ((D6.keep (Same.new hg)).mono (by omega))
        · exact ⟨_, rfl, q _ _ _ (at_lst g6 lS hys) (sz_lst' o6 w6 z6) (D6.mono (by omega))⟩
    case h =>
      intro H1 D1
      have p1 := D1.pen
      have S1 := hS.drew D1
      refine ⟨_, rfl, _, _, rfl, rfl, by decide, by decide, by decide, by decide, ?_⟩
      refine ⟨_, _, rfl, rfl, by decide, by decide, by decide, by decide, ?_⟩
      refine ⟨_, _, rfl, rfl, by decide, by decide, by decide, by decide, ?_⟩
      refine ⟨by show 0 ≤ sizeLine; decide, fun t1 ht1 => ?_⟩
      have g1 := new_tup (K := K) ht1 S1 .nil
      have q1 := Same.new (o := .tup []) ht1
      refine ⟨by show 0 ≤ sizeLine; decide, fun l1 hl1 => ?_⟩
      have g2 := new_lst (K := K) hl1 (S1.keep q1) .nil
      have q2 := Same.new (o := .lst []) hl1
      intro d1 hd1
      have g3 := new_dic (K := K) hd1 ((S1.keep q1).keep q2)
      have q3 := Same.new (o := .dK []) hd1
      refine ⟨by show 1 ≤ sizeLine; decide, fun t2 ht2 => ?_⟩
      have g4 := new_tup (K := K) ht2 (((S1.keep q1).keep q2).keep q3) (.cons (.str "a") .nil)
      have q4 := Same.new (o := .tup [.str "a"]) ht2
      refine ⟨by show 17 ≤ sizeLine; decide, fun L hL => ?_⟩
      apply with_leaf (R := fun H5 => Same H1 H5 ∧ H5 L = some (.lst [.non, .bl true, .bl false, .int (-1), .int 5, .int 121, .int 120, .int 256, .int 255, .str "", .str (repS "a" 20), .str (repS "a" 21), .str (repS "a" 40), .ref t1, .ref l1, .ref d1, .ref t2]) ∧ L ∉ S ∧
        DvAll K (OffS S H5) [.non, .bl true, .bl false, .int (-1), .int 5, .int 121, .int 120, .int 256, .int 255, .str "", .str (repS "a" 20), .str (repS "a" 21), .str (repS "a" 40), .ref t1, .ref l1, .ref d1, .ref t2] [.none, .bool true, .bool false, .int (-1), .int 5, .int 121, .int 120, .int 256, .int 255, .str "", .str (repS "a" 20), .str (repS "a" 21), .str (repS "a" 40), .tuple [], .list [], .dict [], .tuple [.str "a"]])
      case m =>
        intro go
        have q5 := Same.new (o := .lst [.non, .bl true, .bl false, .int (-1), .int 5, .int 121, .int 120, .int 256, .int 255, .str "", .str (repS "a" 20), .str (repS "a" 21), .str (repS "a" 40), .ref t1, .ref l1, .ref d1, .ref t2]) hL
        exact go _ ⟨(((q1.trans q2).trans q3).trans q4).trans q5, upd_same, ((((S1.keep q1).keep q2).keep q3).keep q4).not hL,
          .cons .non (.cons (.bl _) (.cons (.bl _) (.cons (.int _) (.cons (.int _) (.cons (.int _) (.cons (.int _) (.cons (.int _) (.cons (.int _) (.cons (.str _) (.cons (.str _) (.cons (.str _) (.cons (.str _) (.cons (g1.keep (((q2.off.trans q3.off).trans q4.off).trans q5.off)) (.cons (g2.keep ((q3.off.trans q4.off).trans q5.off)) (.cons (g3.keep (q4.off.trans q5.off)) (.cons (g4.keep q5.off) .nil))))))))))))))))⟩
      case h =>
        rintro H5 ⟨s5, gL, LS, A⟩
        have Lp : L ≠ p := fun e => LS (e ▸ pS)
        refine ⟨_, rfl, _, rfl, _, rfl, p, c, n + 1, S, rfl, p1.keep s5, by omega, pS, S1.keep s5, fun v6 d6 H6 hv6 z6 _ D6 => ?_⟩
        have S6 := (S1.keep s5).drew D6
        have gL6 := D6.but _ _ Lp gL
        refine ⟨by show 2 ≤ sizeLine; decide, fun u1 hu1 => ?_⟩
        have f1 := new_tup (K := K) hu1 S6 (.cons (.str "a") (.cons (.str "b") .nil))
        have r1 := Same.new (o := .tup [.str "a", .str "b"]) hu1
        refine ⟨by show 2 ≤ sizeLine; decide, fun u2 hu2 => ?_⟩
        have f2 := new_lst (K := K) hu2 (S6.keep r1) (.cons (.str "a") (.cons (.str "b") .nil))
        have r2 := Same.new (o := .lst [.str "a", .str "b"]) hu2
        refine ⟨by show 2 ≤ sizeLine; decide, fun u3 hu3 => ?_⟩
        have f3 := new_tup (K := K) hu3 ((S6.keep r1).keep r2) (.cons (.str "") (.cons (.str "a") .nil))
        have r3 := Same.new (o := .tup [.str "", .str "a"]) hu3
        refine ⟨by show 2 ≤ sizeLine; decide, fun u4 hu4 => ?_⟩
        have f4 := new_tup (K := K) hu4 (((S6.keep r1).keep r2).keep r3) (.cons (.str "a") (.cons (.str "") .nil))
        have r4 := Same.new (o := .tup [.str "a", .str ""]) hu4
        refine ⟨by show 5 ≤ sizeLine; decide, fun M hM => ?_⟩
        have r5 := Same.new (o := .lst [v6, .ref u1, .ref u2, .ref u3, .ref u4]) hM
        have B := DvAll.cons (hv6.keep ((((r1.off.trans r2.off).trans r3.off).trans r4.off).trans r5.off)) (.cons (f1.keep (((r2.off.trans r3.off).trans r4.off).trans r5.off)) (.cons (f2.keep ((r3.off.trans r4.off).trans r5.off)) (.cons (f3.keep (r4.off.trans r5.off)) (.cons (f4.keep r5.off) .nil))))
        have rr := (((r1.trans r2).trans r3).trans r4).trans r5
        have gM : upd (upd (upd (upd (upd H6 u1 (.tup [.str "a", .str "b"])) u2 (.lst [.str "a", .str "b"])) u3 (.tup [.str "", .str "a"])) u4 (.tup [.str "a", .str ""])) M (.lst [v6, .ref u1, .ref u2, .ref u3, .ref u4]) M = some (.lst [v6, .ref u1, .ref u2, .ref u3, .ref u4]) := upd_same
        have A7 := A.keep ((D6.off pS).trans rr.off)
        have gL7 := rr _ _ gL6
        generalize upd (upd (upd (upd (upd H6 u1 (.tup [.str "a", .str "b"])) u2 (.lst [.str "a", .str "b"])) u3 (.tup [.str "", .str "a"])) u4 (.tup [.str "a", .str ""])) M (.lst [v6, .ref u1, .ref u2, .ref u3, .ref u4]) = H7 at rr gM B A7 gL7 ⊢
        refine ⟨L, M, _, _, rfl, rfl, gL7, gM, by show 22 ≤ sizeLine; decide, fun N hN => ?_⟩
        have D7 : Drew p c H1 H7 (n + 61) := ⟨(D6.pen.keep rr).mono (by omega), ((But.of s5).trans D6.but).trans (But.of rr)⟩
        have S7 := S1.drew D7
        have NS := S7.not hN
        refine ⟨p, c, N, n + 61, _, rfl, D7.pen.new hN, SqL.of upd_same, fun e => NS (e ▸ pS), by simp, by show 22 ≤ 1000; decide, by omega, fun x H8 hx d8 => ?_⟩
        have C8 := (A7.app B).keep ((Same.new hN).off.trans (d8.off pS))
        obtain ⟨dx, hdx, hdv⟩ := C8.mem hx
        have zd : Sz 1100 1 dx := by
          rcases List.mem_append.mp hdx with hd | hd
          · simp only [List.mem_cons, List.not_mem_nil, or_false] at hd
            rcases hd with rfl | rfl | rfl | rfl | rfl | rfl | rfl | rfl | rfl | rfl | rfl | rfl | rfl | rfl | rfl | rfl | rfl
            all_goals first | exact ⟨by decide, by decide, by decide⟩ | exact (sz_int (by decide)).mono (by decide) (by decide)
          · simp only [List.mem_cons, List.not_mem_nil, or_false] at hd
            rcases hd with rfl | rfl | rfl | rfl | rfl
            · exact z6
            all_goals exact ⟨by decide, by decide, by decide⟩
        exact q x dx H8 hdv (zd.mono (by omega) (by omega)) ⟨d8.pen.mono (by omega), (D1.but.trans (D7.but.trans (But.new hN))).trans d8.but⟩
theorem ok_law_bent (T : Txt K mg) : FnOk P w K mg base CX0 14 T.f_law_bent T.d_law_bent ["pen", "value"] (sp_bent K 8) := by
  have step : ∀ m, FnOk P w K mg base CX0 (m + 6) T.f_law_bent T.d_law_bent ["pen", "value"] (sp_bent K m) := by
    intro m
    induction m with
    | zero => exact ok_law_bent__rec T 0 ⟨fun _ _ _ _ h => h.elim, fun _ _ _ _ _ _ _ _ _ _ _ _ _ h => h.elim⟩
    | succ k ih => exact ok_law_bent__rec T (k + 1) ih
  exact step 8

theorem ok_are_octets__v (T : Txt K mg) : FnOk P w K mg base CX0 2 T.f_are_octets T.d_are_octets ["thing"] (sp_chk K dOctets) := by
  refine T.F_are_octets.ok sc_are_octets (fun vs H Q E h => ?_) (fun cdv A outer s H vs Q E hr h => ?_)
  · obtain ⟨v, d, rfl, _⟩ := h
    rfl
  · obtain ⟨v, d, rfl, hv, hw, q⟩ := h
    refine ⟨_, (pss_one (ps_ret (pe_and (pe_callB call_isi rfl T.z_isinstance boot_isinstance (pa_cons (pv 0) (pa_cons (pe_bltn (v := .ty "list") rfl T.z_list boot_list rfl) pa_nil))) (pe_one (pe_callB (cr_all rfl) rfl T.z_all boot_all (pa_cons (pe_lc (own := [("octet", 1)]) (g := (gName 1)) (tt := tYes)  rfl sc_are_octets.nd (pi_list (pv 0)) (blkOk_by (own := [("octet", 1)]) (N := ["thing", "octet"]) (sc := defScope s_are_octets) (by decide +kernel)) (fun _ _ _ _ _ => (pg_name (i := 1) sc_are_octets.nd rfl (Or.inl rfl))) (fun _ _ _ _ _ => pts_nil) (fun _ _ _ _ _ => (pe_call (ok_is_between T) (hr.mono (by decide)) rfl T.g_is_between T.F_is_between.kp T.b_is_between .nil pass0 (pa_cons (pv 1) (pa_cons pe_int (pa_cons pe_int pa_nil)))))) pa_nil)))))), ?_⟩
    have k := hv.kind
    refine ⟨_, rfl, _, _, _, _, _, rfl, .ty _, k.ty, k.kit, _, rfl, ifb (fun e => ?_) (fun e => ?_)⟩
    · obtain ⟨a, xs, ds, rfl, rfl, hs, ha⟩ := hv.asL e
      refine ⟨_, rfl, a, rfl, ⟨xs, hs⟩, fun D hD => ?_⟩
      refine lc_map (walk_list (xs := xs)) (fun i => V.bl (dBtw (ds.getD i .none) 0 255)) (by have := w_lstLen hw; have := ha.len; omega) hD (fun _ s1 => s1.seq hs) ?_ ?_
      · rintro i y H' H'' Q' Z hi s1 ⟨rfl, hy⟩ q'
        refine ⟨rfl, yesI ?_⟩
        obtain ⟨d, hd, hdv⟩ := ha.at hy
        refine ⟨_, rfl, y, _, 0, 255, rfl, (hdv.keep s1).kind, ?_⟩
        have := q' H'' (Same.refl _)
        rw [getD_of .none hd] at this
        rw [hdv.btw]
        exact this
      · intro H' s1 hD'
        rw [tests_of (fun d => dBtw d 0 255) ha] at hD'
        refine ⟨_, ds.map fun d => dBtw d 0 255, rfl, .inl (.inl hD'), Q_bl (q H' s1) ?_⟩
        show (ds.all fun d => dBtw d 0 255) = _
        rw [all_id]
    · exact Q_bl (q H (Same.refl _)) (dOctets_no e)

theorem sz_fields {ds : List PyData} (h : ∀ d ∈ ds, Sz 700 1 d ∧ dField d = true) (hl : ds.length ≤ 17) : Sz 12000 2 (.tuple ds) := by
  refine (sz_tup' (b := 12000) (k := 1) (okVAll_of fun d hd => (h d hd).1.ok) ?_ (depthAll_le fun d hd => (h d hd).1.dp)).mono (by omega) (by omega)
  have : ∀ l : List PyData, (∀ d ∈ l, wV d ≤ 700) → wVAll l ≤ 702 * l.length := by
    intro l
    induction l with
    | nil => intro _; rw [wVAll]; omega
    | cons x l ih =>
      intro hh
      have := ih fun d hd => hh d (List.mem_cons_of_mem _ hd)
      have := hh x (List.mem_cons_self ..)
      rw [wVAll, List.length_cons]; omega
  have := this ds fun d hd => (h d hd).1.w
  omega
theorem sz_ints {ds : List PyData} {k : Nat} (h : ∀ d ∈ ds, Sz 1010 0 d ∧ True) (hl : ds.length ≤ k) : Sz (1012 * k + 4) 1 (.list ds) := by
  refine sz_lst' (k := 0) (okVAll_of fun d hd => (h d hd).1.ok) ?_ (depthAll_le fun d hd => (h d hd).1.dp)
  have : ∀ l : List PyData, (∀ d ∈ l, wV d ≤ 1010) → wVAll l ≤ 1012 * l.length := by
    intro l
    induction l with
    | nil => intro _; rw [wVAll]; omega
    | cons x l ih =>
      intro hh
      have := ih fun d hd => hh d (List.mem_cons_of_mem _ hd)
      have := hh x (List.mem_cons_self ..)
      rw [wVAll, List.length_cons]; omega
  have := this ds fun d hd => (h d hd).1.w
  have : 1012 * ds.length ≤ 1012 * k := Nat.mul_le_mul_left _ hl
  omega
theorem ok_law (T : Txt K mg) : TopOk P w K mg 15 T.f_law T.d_law ["script"] (spLaw K) := by
  refine top_of T.F_law sc_law (fun vs H Q E h => ?_) (fun base cdv A outer s H vs Q E hA hr h => ?_)
  · obtain ⟨a, ns, rfl, _⟩ := h
    rfl
  · obtain ⟨a, ns, rfl, hS, hl, q⟩ := h
    have hgd : (A.deeper (envOfC "law" (defScope s_law) s.heap.objs.size T.f_law cdv)).guards = some [] := hA
    have hud : (A.deeper (envOfC "law" (defScope s_law) s.heap.objs.size T.f_law cdv)).units + 64 < cLine := by have := hr.un; omega
    refine ⟨_, (pss_cons (ps_set (i := 1) sc_law.nd rfl (Or.inr rfl) (pe_call (ok_law_open T) (hr.mono (by decide)) rfl T.g_law_open T.F_law_open.kp T.b_law_open .nil pass0 (pa_cons (pv 0) pa_nil)))
      (pss_cons (ps_for PassesOwn.never rfl (pi_range1 rfl T.z_range (pa_cons pe_int pa_nil)) (pg_name (i := 2) sc_law.nd rfl (Or.inl rfl))
        (pss_cons (ps_set (i := 3) sc_law.nd rfl (Or.inl rfl) (pe_callTy call_tuple_of rfl T.z_tuple boot_tuple (pa_cons (pe_lc (own := [("again", 4)]) (g := (gName 4)) (tt := tYes)  rfl sc_law.nd (pi_range1 rfl T.z_range (pa_cons (pe_call (ok_law_one_of T) (hr.mono (by decide)) rfl T.g_law_one_of T.F_law_one_of.kp T.b_law_one_of .nil pass0 (pa_cons (pv 1) (pa_cons (pe_lst (pa_cons pe_int (pa_cons pe_int (pa_cons pe_int (pa_cons pe_int (pa_cons pe_int (pa_cons pe_int (pa_cons pe_int pa_nil)))))))) pa_nil))) pa_nil)) (blkOk_by (own := [("again", 4)]) (N := ["script", "pen", "turn", "fields", "again", "setting", "octets", "base", "value", "seen", "told", "due"]) (sc := defScope s_law) (by decide +kernel)) (fun _ _ _ _ _ => (pg_name (i := 4) sc_law.nd rfl (Or.inl rfl))) (fun _ _ _ _ _ => pts_nil) (fun _ _ _ _ _ => (pe_call (ok_law_draw_field T) (hr.mono (by decide)) rfl T.g_law_draw_field T.F_law_draw_field.kp T.b_law_draw_field .nil pass0 (pa_cons (pv 1) pa_nil)))) pa_nil)))
      (pss_cons (ps_set (i := 5) sc_law.nd rfl (Or.inl rfl) (pe_tup (pa_cons (pv 3) (pa_cons (pe_call (ok_law_one_of T) (hr.mono (by decide)) rfl T.g_law_one_of T.F_law_one_of.kp T.b_law_one_of .nil pass0 (pa_cons (pv 1) (pa_cons (pe_lst (pa_cons pe_int (pa_cons pe_int (pa_cons pe_int (pa_cons (pe_call (ok_law_take T) (hr.mono (by decide)) rfl T.g_law_take T.F_law_take.kp T.b_law_take .nil pass0 (pa_cons (pv 1) (pa_cons pe_int pa_nil))) pa_nil))))) pa_nil))) (pa_cons (pe_call (ok_law_take T) (hr.mono (by decide)) rfl T.g_law_take T.F_law_take.kp T.b_law_take .nil pass0 (pa_cons (pv 1) (pa_cons pe_int pa_nil))) pa_nil)))))
      (pss_cons (ps_setLc (i := 6) (own := [("again", 4)]) (g := (gName 4)) (tt := tYes)  rfl sc_law.nd rfl rfl (sw_true rfl rfl rfl (by decide +kernel)) (pi_range1 rfl T.z_range (pa_cons (pe_call (ok_law_take T) (hr.mono (by decide)) rfl T.g_law_take T.F_law_take.kp T.b_law_take .nil pass0 (pa_cons (pv 1) (pa_cons pe_int pa_nil))) pa_nil)) (blkOk_by (own := [("again", 4)]) (N := ["script", "pen", "turn", "fields", "again", "setting", "octets", "base", "value", "seen", "told", "due"]) (sc := defScope s_law) (by decide +kernel)) (fun _ _ _ _ _ => (pg_name (i := 4) sc_law.nd rfl (Or.inl rfl))) (fun _ _ _ _ _ => pts_nil) (fun _ _ _ _ _ => (pe_call (ok_law_take T) (hr.mono (by decide)) rfl T.g_law_take T.F_law_take.kp T.b_law_take .nil pass0 (pa_cons (pv 1) (pa_cons pe_int pa_nil)))))
      (pss_one (ps_for PassesOwn.never rfl (pi_list (pe_lst (pa_cons (pe_call (ok_law_draw_field T) (hr.mono (by decide)) rfl T.g_law_draw_field T.F_law_draw_field.kp T.b_law_draw_field .nil pass0 (pa_cons (pv 1) pa_nil)) (pa_cons (pv 3) (pa_cons (pv 5) (pa_cons (pv 6) pa_nil)))))) (pg_name (i := 7) sc_law.nd rfl (Or.inl rfl))
        (pss_one (ps_for PassesOwn.never rfl (pi_list (pe_lst (pa_cons (pv 7) (pa_cons (pe_call (ok_law_bent T) (hr.mono (by decide)) rfl T.g_law_bent T.F_law_bent.kp T.b_law_bent .nil pass0 (pa_cons (pv 1) (pa_cons (pv 7) pa_nil))) (pa_cons (pe_call (ok_law_bent T) (hr.mono (by decide)) rfl T.g_law_bent T.F_law_bent.kp T.b_law_bent .nil pass0 (pa_cons (pv 1) (pa_cons (pv 7) pa_nil))) (pa_cons (pe_call (ok_law_bent T) (hr.mono (by decide)) rfl T.g_law_bent T.F_law_bent.kp T.b_law_bent .nil pass0 (pa_cons (pv 1) (pa_cons (pe_call (ok_law_bent T) (hr.mono (by decide)) rfl T.g_law_bent T.F_law_bent.kp T.b_law_bent .nil pass0 (pa_cons (pv 1) (pa_cons (pv 7) pa_nil))) pa_nil))) pa_nil)))))) (pg_name (i := 8) sc_law.nd rfl (Or.inl rfl))
        (pss_cons (ps_set (i := 9) sc_law.nd rfl (Or.inl rfl) (pe_callB (call_reprV hgd hud) rfl T.z_repr boot_repr (pa_cons (pv 8) pa_nil)))
      (pss_cons (ps_set (i := 10) sc_law.nd rfl (Or.inl rfl) (pe_lst (pa_cons (pe_call (ok_is_field T) (hr.mono (by decide)) rfl T.g_is_field T.F_is_field.kp T.b_is_field .nil pass0 (pa_cons (pv 8) pa_nil)) (pa_cons (pe_call (ok_are_fields T) (hr.mono (by decide)) rfl T.g_are_fields T.F_are_fields.kp T.b_are_fields .nil pass0 (pa_cons (pv 8) pa_nil)) (pa_cons (pe_call (ok_is_setting T) (hr.mono (by decide)) rfl T.g_is_setting T.F_is_setting.kp T.b_is_setting .nil pass0 (pa_cons (pv 8) pa_nil)) (pa_cons (pe_call (ok_are_octets__v T) (hr.mono (by decide)) rfl T.g_are_octets T.F_are_octets.kp T.b_are_octets .nil pass0 (pa_cons (pv 8) pa_nil)) pa_nil))))))
      (pss_cons (ps_set (i := 11) sc_law.nd rfl (Or.inl rfl) (pe_lst (pa_cons (pe_call (ok_law_is_field T) (hr.mono (by decide)) rfl T.g_law_is_field T.F_law_is_field.kp T.b_law_is_field .nil pass0 (pa_cons (pv 8) pa_nil)) (pa_cons (pe_call (ok_law_are_fields T) (hr.mono (by decide)) rfl T.g_law_are_fields T.F_law_are_fields.kp T.b_law_are_fields .nil pass0 (pa_cons (pv 8) pa_nil)) (pa_cons (pe_call (ok_law_is_setting T) (hr.mono (by decide)) rfl T.g_law_is_setting T.F_law_is_setting.kp T.b_law_is_setting .nil pass0 (pa_cons (pv 8) pa_nil)) (pa_cons (pe_call (ok_law_are_octets T) (hr.mono (by decide)) rfl T.g_law_are_octets T.F_law_are_octets.kp T.b_law_are_octets .nil pass0 (pa_cons (pv 8) pa_nil)) pa_nil))))))
      (pss_one (ps_if (PW.pt (pw_or (pt_not (pt_val (pe_call (ok_law_same T) (hr.mono (by decide)) rfl T.g_law_same T.F_law_same.kp T.b_law_same .nil pass0 (pa_cons (pv 10) (pa_cons (pv 11) pa_nil))))) (pw_or1 (pt_cmpR op_ne (pe_callB (call_reprV hgd hud) rfl T.z_repr boot_repr (pa_cons (pv 8) pa_nil)) (pv 9) (nomark _))))) (pss_one (ps_ret pe_bl)) pss_nil)))))))))))))
      (pss_one (ps_ret pe_bl)))), ?_⟩
    refine ⟨_, rfl, a, ns, rfl, hS, hl, fun p c H1 hp s1 P1 => ?_⟩
    refine ⟨_, rfl, by decide, by decide, ?_⟩
    refine for_range (lo := 0) (n := 8) (fun i σ H' => ∃ v2 v3 v4 v5 v6 v7 v8 v9 v10 v11 : Option V, σ = [some (.ref a), some (.ref p), v2, v3, v4, v5, v6, v7, v8, v9, v10, v11] ∧ Pen H' p c (20000 * i)) ⟨_, _, _, _, _, _, _, _, _, _, rfl, P1⟩ ?_ ?_
    · rintro i σ H2 hi ⟨v2, v3, v4, v5, v6, v7, v8, v9, v10, v11, rfl, P2⟩
      have S2 := Hid.one P2
      have pS : p ∈ [p] := List.mem_singleton.mpr rfl
      -- fields
      refine ⟨_, rfl, by show 7 ≤ sizeLine; decide, fun l hl => ?_⟩
      refine ⟨p, c, l, 20000 * i, _, rfl, P2.new hl, SqL.of upd_same, fun e => S2 p pS (e ▸ hl), by simp, by show 7 ≤ 1000; decide, by omega, fun x H3 hx d3 => ?_⟩
      obtain ⟨z, rfl, hz0, hz1⟩ : ∃ z : Int, x = .int z ∧ 0 ≤ z ∧ z ≤ 17 := by
        simp only [List.mem_cons, List.not_mem_nil, or_false] at hx
        rcases hx with h | h | h | h | h | h | h
        all_goals exact ⟨_, h, by decide, by decide⟩
      have D3 : Drew p c H2 H3 (20000 * i + 1) := ⟨d3.pen, (But.new hl).trans d3.but⟩
      refine ⟨z, rfl, by omega, by omega, fun D hD => ?_⟩
      refine lc_gen walk_range (LcI K p c D [p] H3 (20000 * i + 1) 100 700 1 fun d => dField d = true) (by omega) (LcI.start D3.pen hD) (fun _ _ _ _ => True.intro) ?_ ?_
      · rintro j ys x H' H'' Q' Z hj hlj gD I ⟨rfl, rfl⟩ q'
        refine ⟨rfl, yesI ?_⟩
        refine ⟨_, rfl, p, c, _, [D, p], rfl, I.drew.pen, by omega, List.mem_cons_of_mem _ pS, ?_, fun v d H4 hv hz hf h4 => ?_⟩
        · exact (Hid.one I.drew.pen).cons (by rw [gD]; exact fun z => nomatch z)
        · obtain ⟨e1, e2⟩ := I.step D3.pen pS hD gD hv hz hf h4
          exact q' v H4 e1 e2
      rintro ys H4 hly gD I
      obtain ⟨D4, fs, hfs, hF⟩ := I
      have hfl := hfs.len
      refine ⟨D, ys, rfl, .inl ⟨SqL.of gD, fun t ht => ?_⟩⟩
      have hfs4 : DvAll K (OffS [p] H4) ys fs := hfs.keep off_less
      have gt := new_tup (K := K) (S := [p]) ht (Hid.one D4.pen) hfs4
      have zt := sz_fields hF (by omega)
      have D5 := D4.keep (Same.new (o := .tup ys) ht)
      generalize upd H4 t (.tup ys) = H5 at gt D5 ⊢
      -- setting
      refine ⟨_, rfl, _, rfl, _, rfl, p, c, _, 140, rfl, D5.pen, by omega, by omega, by omega, fun r6 H6 hr60 hr61 d6 => ?_⟩
      refine ⟨by show 4 ≤ sizeLine; decide, fun l7 hl7 => ?_⟩
      refine ⟨p, c, l7, _, _, rfl, d6.pen.new hl7, SqL.of upd_same, fun e => (Hid.one d6.pen) p pS (e ▸ hl7), by simp, by show 4 ≤ 1000; decide, by omega, fun x H7 hx d7 => ?_⟩
      obtain ⟨y, rfl, hy0, hy1⟩ : ∃ z : Int, x = .int z ∧ 0 ≤ z ∧ z ≤ 140 := by
        simp only [List.mem_cons, List.not_mem_nil, or_false] at hx
        rcases hx with h | h | h | h
        · exact ⟨_, h, by decide, by decide⟩
        · exact ⟨_, h, by decide, by decide⟩
        · exact ⟨_, h, by decide, by decide⟩
        · exact ⟨_, h, by omega, by omega⟩
      refine ⟨_, rfl, p, c, _, 6, rfl, d7.pen, by omega, by omega, by omega, fun r8 H8 hr80 hr81 d8 => ?_⟩
      refine ⟨by show 3 ≤ sizeLine; decide, fun st hst => ?_⟩
      have D8 : Drew p c H5 H8 _ := ⟨d8.pen, (d6.but.trans ((But.new hl7).trans d7.but)).trans d8.but⟩
      have gs := new_tup (K := K) (S := [p]) hst (Hid.one d8.pen) (.cons (gt.keep (D8.off pS)) (.cons (.int y) (.cons (.int r8) .nil)))
      have zs : Sz 20000 3 (.tuple [.tuple fs, .int y, .int r8]) := by
        have iy : Sz 1010 0 (.int y) := sz_int (by have h3 : (200 : Nat) < 2 ^ 1000 := by decide +kernel
                                                   omega)
        have ir : Sz 1010 0 (.int r8) := sz_int (by have h3 : (200 : Nat) < 2 ^ 1000 := by decide +kernel
                                                    omega)
        refine sz_tup' (k := 2) ?_ ?_ ?_
        · rw [okVAll, okVAll, okVAll, okVAll, zt.ok, iy.ok, ir.ok]; rfl
        · have := zt.w; have := iy.w; have := ir.w
          rw [wVAll, wVAll, wVAll, wVAll]; omega
        · refine depthAll_le fun d hd => ?_
          simp only [List.mem_cons, List.not_mem_nil, or_false] at hd
          rcases hd with rfl | rfl | rfl
          · exact zt.dp
          · exact Nat.le_trans iy.dp (by decide)
          · exact Nat.le_trans ir.dp (by decide)
      have D9 := D8.keep (Same.new (o := .tup [.ref t, .int y, .int r8]) hst)
      have gt9 := gt.keep (D9.off pS)
      generalize upd H8 st (.tup [.ref t, .int y, .int r8]) = H9 at gs D9 gt9 ⊢
      -- octets
      refine ⟨_, rfl, p, c, _, 30, rfl, D9.pen, by omega, by omega, by omega, fun r10 H10 hr0 hr1 d10 => ?_⟩
      refine ⟨r10, rfl, by omega, by omega, fun O hO => ?_⟩
      refine lc_gen walk_range (LcI K p c O [p] H10 _ 1 1010 0 fun _ => True) (by omega) (LcI.start d10.pen hO) (fun _ _ _ _ => True.intro) ?_ ?_
      · rintro j ys x H' H'' Q' Z hj hlj gD I ⟨rfl, rfl⟩ q'
        refine ⟨rfl, yesI ?_⟩
        refine ⟨_, rfl, p, c, _, 256, rfl, I.drew.pen, by omega, by omega, by omega, fun r11 H11 h0 h1 d11 => ?_⟩
        obtain ⟨e1, e2⟩ := I.step d10.pen pS hO gD (.int r11) (sz_int (by have h3 : (300 : Nat) < 2 ^ 1000 := by decide +kernel
                                                                          omega)) True.intro d11
        exact q' _ _ e1 e2
      rintro os H11 hlo gO I
      obtain ⟨D11, od, hod, hO2⟩ := I
      have hol := hod.len
      have OS : O ∉ [p] := (Hid.one d10.pen).not hO
      have go : Dv K (OffS [p] H11) (.ref O) (.list od) := at_lst gO OS (hod.keep off_less)
      have zo := sz_ints (k := 29) hO2 (by omega)
      have D12 : Drew p c H9 H11 _ := ⟨D11.pen, d10.but.trans D11.but⟩
      have gt12 := gt9.keep (D12.off pS)
      have gs12 := gs.keep (D12.off pS)
      -- for base
      refine ⟨_, rfl, p, c, _, [p], rfl, D12.pen, by omega, pS, Hid.one D12.pen, fun bv bd H13 hbv hbz _ d13 => ?_⟩
      refine ⟨_, rfl, _, rfl, _, rfl, by show 4 ≤ sizeLine; decide, fun B hB => ?_⟩
      have S13 := Hid.one d13.pen
      have BS : B ∉ [p] := S13.not hB
      have Bp : B ≠ p := fun e => BS (List.mem_singleton.mpr e)
      have sB := Same.new (o := .lst [bv, .ref t, .ref st, .ref O]) hB
      have gB : upd H13 B (.lst [bv, .ref t, .ref st, .ref O]) B = some (.lst [bv, .ref t, .ref st, .ref O]) := upd_same
      have aB : DvAll K (OffS [p] (upd H13 B (.lst [bv, .ref t, .ref st, .ref O]))) [bv, .ref t, .ref st, .ref O] [bd, .tuple fs, .tuple [.tuple fs, .int y, .int r8], .list od] :=
        .cons (hbv.keep sB.off) (.cons (gt12.keep ((d13.off pS).trans sB.off)) (.cons (gs12.keep ((d13.off pS).trans sB.off)) (.cons (go.keep ((d13.off pS).trans sB.off)) .nil)))
      have zB : ∀ d ∈ [bd, .tuple fs, .tuple [.tuple fs, .int y, .int r8], .list od], Sz 30000 3 d := by
        intro d hd
        simp only [List.mem_cons, List.not_mem_nil, or_false] at hd
        rcases hd with rfl | rfl | rfl | rfl
        · exact hbz.mono (by omega) (by omega)
        · exact zt.mono (by omega) (by omega)
        · exact zs.mono (by omega) (by omega)
        · exact zo.mono (by omega) (by omega)
      have P14 := d13.pen.keep sB
      generalize upd H13 B (.lst [bv, .ref t, .ref st, .ref O]) = H14 at gB aB P14 ⊢
      refine ⟨B, rfl, ⟨_, SqL.of gB⟩, ?_⟩
      obtain ⟨N, hN, hN2⟩ : ∃ N, Pen H14 p c N ∧ N ≤ 20000 * i + 2000 := ⟨_, P14, by omega⟩
      refine for_list (K := K) (a := B) (xs := [bv, .ref t, .ref st, .ref O]) (fun j σ H' => ∃ v2 v4 v7 v8 v9 v10 v11 : Option V, σ = [some (.ref a), some (.ref p), v2, some (.ref t), v4, some (.ref st), some (.ref O), v7, v8, v9, v10, v11] ∧ Drew p c H14 H' (N + 3000 * j)) ⟨_, _, _, _, _, _, _, rfl, hN.mono (by omega), But.refl _ _⟩ (fun j σ H' _ ⟨_, _, _, _, _, _, _, _, d⟩ => d.but.seq Bp (SqL.of gB)) ?_ ?_
      · rintro j x σ H15 hj ⟨w2, w4, w7, w8, w9, w10, w11, rfl, d15⟩
        have hj4 : j < 4 := (List.getElem?_eq_some_iff.mp hj).1
        obtain ⟨dx, hdx, hdv⟩ := (aB.keep (d15.off pS)).at hj
        have zx := zB dx (List.mem_of_getElem? hdx)
        have S15 := Hid.one d15.pen
        refine ⟨_, rfl, _, rfl, _, rfl, p, c, _, x, dx, 30000, 3, [p], rfl, d15.pen, by omega, pS, S15, hdv, zx, by omega, by omega, by omega, fun y1 e1 H16 hy1 z1 d16 => ?_⟩
        refine ⟨_, rfl, _, rfl, p, c, _, x, dx, 30000, 3, [p], rfl, d16.pen, by omega, pS, Hid.one d16.pen, hdv.keep (d16.off pS), zx, by omega, by omega, by omega, fun y2 e2 H17 hy2 z2 d17 => ?_⟩
        refine ⟨_, rfl, _, rfl, _, rfl, p, c, _, x, dx, 30000, 3, [p], rfl, d17.pen, by omega, pS, Hid.one d17.pen, hdv.keep ((d16.off pS).trans (d17.off pS)), zx, by omega, by omega, by omega, fun y3 e3 H18 hy3 z3 d18 => ?_⟩
        refine ⟨p, c, _, y3, e3, 62000, 4, [p], rfl, d18.pen, by omega, pS, Hid.one d18.pen, hy3, z3, by omega, by omega, by omega, fun y4 e4 H19 hy4 z4 d19 => ?_⟩
        refine ⟨by show 4 ≤ sizeLine; decide, fun C hC => ?_⟩
        have S19 := Hid.one d19.pen
        have CS : C ∉ [p] := S19.not hC
        have Cp : C ≠ p := fun e => CS (List.mem_singleton.mpr e)
        have sC := Same.new (o := .lst [x, y1, y2, y4]) hC
        have gC : upd H19 C (.lst [x, y1, y2, y4]) C = some (.lst [x, y1, y2, y4]) := upd_same
        have aC : DvAll K (OffS [p] (upd H19 C (.lst [x, y1, y2, y4]))) [x, y1, y2, y4] [dx, e1, e2, e4] :=
          .cons (hdv.keep (((((d16.off pS).trans (d17.off pS)).trans (d18.off pS)).trans (d19.off pS)).trans sC.off)) (.cons (hy1.keep ((((d17.off pS).trans (d18.off pS)).trans (d19.off pS)).trans sC.off)) (.cons (hy2.keep (((d18.off pS).trans (d19.off pS)).trans sC.off)) (.cons (hy4.keep sC.off) .nil)))
        have zC : ∀ d ∈ [dx, e1, e2, e4], Sz 126000 5 d := by
          intro d hd
          simp only [List.mem_cons, List.not_mem_nil, or_false] at hd
          rcases hd with rfl | rfl | rfl | rfl
          · exact zx.mono (by omega) (by omega)
          · exact z1.mono (by omega) (by omega)
          · exact z2.mono (by omega) (by omega)
          · exact z4.mono (by omega) (by omega)
        have D20 : Drew p c H14 (upd H19 C (.lst [x, y1, y2, y4])) (N + 3000 * j + 2500) := ⟨(d19.pen.keep sC).mono (by omega), ((((d15.but.trans d16.but).trans d17.but).trans d18.but).trans d19.but).trans (But.of sC)⟩
        generalize upd H19 C (.lst [x, y1, y2, y4]) = H20 at gC aC D20 ⊢
        refine ⟨C, rfl, ⟨_, SqL.of gC⟩, ?_⟩
        refine for_list (K := K) (a := C) (xs := [x, y1, y2, y4]) (fun j σ H' => ∃ v2 v4 v8 v9 v10 v11 : Option V, σ = [some (.ref a), some (.ref p), v2, some (.ref t), v4, some (.ref st), some (.ref O), some x, v8, v9, v10, v11] ∧ Same H20 H') ⟨_, _, _, _, _, _, rfl, Same.refl _⟩ (fun j σ H' _ ⟨_, _, _, _, _, _, _, s⟩ => s.seq (SqL.of gC)) ?_ ?_
        · rintro k v σ H21 hk ⟨u2, u4, u8, u9, u10, u11, rfl, s21⟩
          obtain ⟨d, hd, hv0⟩ := (aC.keep s21.off).at hk
          have zd := zC d (List.mem_of_getElem? hd)
          have hv := hv0.on
          have hw : wV d ≤ 1000000 := by have := zd.w; omega
          have hw7 : wV d ≤ 10000000 := by omega
          have hdp : d.depth ≤ 40 := by have := zd.dp; omega
          refine ⟨_, rfl, v, d, rfl, hv, zd.ok, hdp, hw7, ?_⟩
          refine ⟨_, rfl, v, d, rfl, hv, hw, fun H22 s22 => ?_⟩
          refine ⟨_, rfl, v, d, rfl, hv.keep s22, hw, fun H23 s23 => ?_⟩
          refine ⟨_, rfl, v, d, rfl, (hv.keep s22).keep s23, hw, fun H24 s24 => ?_⟩
          have hv24 := ((hv.keep s22).keep s23).keep s24
          refine ⟨_, rfl, v, d, rfl, hv24, hw, fun H25 s25 => ?_⟩
          have hv25 := hv24.keep s25
          refine ⟨by show 4 ≤ sizeLine; decide, fun M hM => ?_⟩
          have s26 := Same.new (o := .lst [.bl (dField d), .bl (dFields 16 d), .bl (dSetting d), .bl (dOctets d)]) hM
          have gM : upd H25 M (.lst [.bl (dField d), .bl (dFields 16 d), .bl (dSetting d), .bl (dOctets d)]) M = some (.lst [.bl (dField d), .bl (dFields 16 d), .bl (dSetting d), .bl (dOctets d)]) := upd_same
          have hv26 := hv25.keep s26
          generalize upd H25 M (.lst [.bl (dField d), .bl (dFields 16 d), .bl (dSetting d), .bl (dOctets d)]) = H26 at s26 gM hv26 ⊢
          refine ⟨_, rfl, v, d, rfl, hv26, hw, fun H27 s27 => ?_⟩
          refine ⟨_, rfl, v, d, rfl, hv26.keep s27, hw, fun H28 s28 => ?_⟩
          refine ⟨_, rfl, v, d, rfl, (hv26.keep s27).keep s28, hw, fun H29 s29 => ?_⟩
          refine ⟨_, rfl, v, d, rfl, ((hv26.keep s27).keep s28).keep s29, hw, fun H30 s30 => ?_⟩
          refine ⟨by show 4 ≤ sizeLine; decide, fun M2 hM2 => ?_⟩
          have s31 := Same.new (o := .lst [.bl (dField d), .bl (dFields 16 d), .bl (dSetting d), .bl (dOctets d)]) hM2
          have sAll := (((s27.trans s28).trans s29).trans s30).trans s31
          refine ⟨_, rfl, _, rfl, .ref M, .ref M2, .list [.bool (dField d), .bool (dFields 16 d), .bool (dSetting d), .bool (dOctets d)], rfl, .lst (SqL.of (sAll _ _ gM)) (.cons (.bl _) (.cons (.bl _) (.cons (.bl _) (.cons (.bl _) .nil)))),
            .lst (SqL.of upd_same) (.cons (.bl _) (.cons (.bl _) (.cons (.bl _) (.cons (.bl _) .nil)))), ⟨by simp, fun x hx => ?_⟩, fun H32 s32 => ?_⟩
          · simp only [List.mem_cons, List.not_mem_nil, or_false] at hx
            rcases hx with rfl | rfl | rfl | rfl <;> exact True.intro
          refine ⟨_, rfl, ifF rfl ?_⟩
          refine ⟨_, rfl, v, d, rfl, (hv26.keep sAll).keep s32, zd.ok, hdp, hw7, ⟨_, rfl, rfl, _, rfl, ifF (by rw [decide_eq_true rfl]; rfl) ?_⟩⟩
          exact ⟨_, _, _, _, _, _, rfl, (((((s21.trans s22).trans s23).trans s24).trans s25).trans s26).trans (sAll.trans s32)⟩
        · rintro σ H21 ⟨u2, u4, u8, u9, u10, u11, rfl, s21⟩
          exact ⟨_, _, _, _, _, _, _, rfl, (D20.keep s21).mono (by omega)⟩
      · rintro σ H15 ⟨w2, w4, w7, w8, w9, w10, w11, rfl, d15⟩
        exact ⟨_, _, _, _, _, _, _, _, _, _, rfl, d15.pen.mono (by show N + 3000 * 4 ≤ _; omega)⟩
    · rintro σ H' ⟨v2, v3, v4, v5, v6, v7, v8, v9, v10, v11, rfl, P2⟩
      exact q H'

end
theorem all_mk {l : PySem.W.OpenLaw} {w : World} {K : PySem.W.Frag} {h : Heap} {mg : Str → Option Value} {fa : Addr} (X : K.In h) (G : h.Ns mainGlobals mg) (hfa : mg "law" = some (.ref fa))
    {f0 : Addr} {od0 an0 : Option Addr} {sl0 : Array (Option Value)} {oc0 kV0 dc0 pm0 cd0 ct0 : Value}
    (a0 : PySem.W.nsIn K mainGlobals "is_between" = some (some (.ref f0))) (l0 : K.lookup f0 = some ⟨oc0, od0, .func (PySem.W.fnOf "is_between" "is_between" (defArgs s_is_between) (defBody s_is_between) (defScope s_is_between) .none kV0 dc0 pm0 an0 cd0 ct0), sl0⟩) (c0 : PySem.W.codeIn K cd0 "is_between" = true) (k0 : PySem.W.keepIn K (.ref f0) = true)
    {f1 : Addr} {od1 an1 : Option Addr} {sl1 : Array (Option Value)} {oc1 kV1 dc1 pm1 cd1 ct1 : Value}
    (a1 : PySem.W.nsIn K mainGlobals "is_text" = some (some (.ref f1))) (l1 : K.lookup f1 = some ⟨oc1, od1, .func (PySem.W.fnOf "is_text" "is_text" (defArgs s_is_text) (defBody s_is_text) (defScope s_is_text) .none kV1 dc1 pm1 an1 cd1 ct1), sl1⟩) (c1 : PySem.W.codeIn K cd1 "is_text" = true) (k1 : PySem.W.keepIn K (.ref f1) = true)
    {f2 : Addr} {od2 an2 : Option Addr} {sl2 : Array (Option Value)} {oc2 kV2 dc2 pm2 cd2 ct2 : Value}
    (a2 : PySem.W.nsIn K mainGlobals "is_name" = some (some (.ref f2))) (l2 : K.lookup f2 = some ⟨oc2, od2, .func (PySem.W.fnOf "is_name" "is_name" (defArgs s_is_name) (defBody s_is_name) (defScope s_is_name) .none kV2 dc2 pm2 an2 cd2 ct2), sl2⟩) (c2 : PySem.W.codeIn K cd2 "is_name" = true) (k2 : PySem.W.keepIn K (.ref f2) = true)
    {f3 : Addr} {od3 an3 : Option Addr} {sl3 : Array (Option Value)} {oc3 kV3 dc3 pm3 cd3 ct3 : Value}
    (a3 : PySem.W.nsIn K mainGlobals "is_value" = some (some (.ref f3))) (l3 : K.lookup f3 = some ⟨oc3, od3, .func (PySem.W.fnOf "is_value" "is_value" (defArgs s_is_value) (defBody s_is_value) (defScope s_is_value) .none kV3 dc3 pm3 an3 cd3 ct3), sl3⟩) (c3 : PySem.W.codeIn K cd3 "is_value" = true) (k3 : PySem.W.keepIn K (.ref f3) = true)
    {f4 : Addr} {od4 an4 : Option Addr} {sl4 : Array (Option Value)} {oc4 kV4 dc4 pm4 cd4 ct4 : Value}
    (a4 : PySem.W.nsIn K mainGlobals "is_field" = some (some (.ref f4))) (l4 : K.lookup f4 = some ⟨oc4, od4, .func (PySem.W.fnOf "is_field" "is_field" (defArgs s_is_field) (defBody s_is_field) (defScope s_is_field) .none kV4 dc4 pm4 an4 cd4 ct4), sl4⟩) (c4 : PySem.W.codeIn K cd4 "is_field" = true) (k4 : PySem.W.keepIn K (.ref f4) = true)
    {f5 : Addr} {od5 an5 : Option Addr} {sl5 : Array (Option Value)} {oc5 kV5 dc5 pm5 cd5 ct5 : Value}
    (a5 : PySem.W.nsIn K mainGlobals "is_tuple_of_fields" = some (some (.ref f5))) (l5 : K.lookup f5 = some ⟨oc5, od5, .func (PySem.W.fnOf "is_tuple_of_fields" "is_tuple_of_fields" (defArgs s_is_tuple_of_fields) (defBody s_is_tuple_of_fields) (defScope s_is_tuple_of_fields) .none kV5 dc5 pm5 an5 cd5 ct5), sl5⟩) (c5 : PySem.W.codeIn K cd5 "is_tuple_of_fields" = true) (k5 : PySem.W.keepIn K (.ref f5) = true)
    {f6 : Addr} {od6 an6 : Option Addr} {sl6 : Array (Option Value)} {oc6 kV6 dc6 pm6 cd6 ct6 : Value}
    (a6 : PySem.W.nsIn K mainGlobals "are_fields" = some (some (.ref f6))) (l6 : K.lookup f6 = some ⟨oc6, od6, .func (PySem.W.fnOf "are_fields" "are_fields" (defArgs s_are_fields) (defBody s_are_fields) (defScope s_are_fields) .none kV6 dc6 pm6 an6 cd6 ct6), sl6⟩) (c6 : PySem.W.codeIn K cd6 "are_fields" = true) (k6 : PySem.W.keepIn K (.ref f6) = true)
    {f7 : Addr} {od7 an7 : Option Addr} {sl7 : Array (Option Value)} {oc7 kV7 dc7 pm7 cd7 ct7 : Value}
    (a7 : PySem.W.nsIn K mainGlobals "is_setting" = some (some (.ref f7))) (l7 : K.lookup f7 = some ⟨oc7, od7, .func (PySem.W.fnOf "is_setting" "is_setting" (defArgs s_is_setting) (defBody s_is_setting) (defScope s_is_setting) .none kV7 dc7 pm7 an7 cd7 ct7), sl7⟩) (c7 : PySem.W.codeIn K cd7 "is_setting" = true) (k7 : PySem.W.keepIn K (.ref f7) = true)
    {f8 : Addr} {od8 an8 : Option Addr} {sl8 : Array (Option Value)} {oc8 kV8 dc8 pm8 cd8 ct8 : Value}
    (a8 : PySem.W.nsIn K mainGlobals "are_octets" = some (some (.ref f8))) (l8 : K.lookup f8 = some ⟨oc8, od8, .func (PySem.W.fnOf "are_octets" "are_octets" (defArgs s_are_octets) (defBody s_are_octets) (defScope s_are_octets) .none kV8 dc8 pm8 an8 cd8 ct8), sl8⟩) (c8 : PySem.W.codeIn K cd8 "are_octets" = true) (k8 : PySem.W.keepIn K (.ref f8) = true)
    {f9 : Addr} {od9 an9 : Option Addr} {sl9 : Array (Option Value)} {oc9 kV9 dc9 pm9 cd9 ct9 : Value}
    (a9 : PySem.W.nsIn K mainGlobals "_law_open" = some (some (.ref f9))) (l9 : K.lookup f9 = some ⟨oc9, od9, .func (PySem.W.fnOf "_law_open" "_law_open" (defArgs s_law_open) (defBody s_law_open) (defScope s_law_open) .none kV9 dc9 pm9 an9 cd9 ct9), sl9⟩) (c9 : PySem.W.codeIn K cd9 "_law_open" = true) (k9 : PySem.W.keepIn K (.ref f9) = true)
    {f10 : Addr} {od10 an10 : Option Addr} {sl10 : Array (Option Value)} {oc10 kV10 dc10 pm10 cd10 ct10 : Value}
    (a10 : PySem.W.nsIn K mainGlobals "_law_spread" = some (some (.ref f10))) (l10 : K.lookup f10 = some ⟨oc10, od10, .func (PySem.W.fnOf "_law_spread" "_law_spread" (defArgs s_law_spread) (defBody s_law_spread) (defScope s_law_spread) .none kV10 dc10 pm10 an10 cd10 ct10), sl10⟩) (c10 : PySem.W.codeIn K cd10 "_law_spread" = true) (k10 : PySem.W.keepIn K (.ref f10) = true)
    {f11 : Addr} {od11 an11 : Option Addr} {sl11 : Array (Option Value)} {oc11 kV11 dc11 pm11 cd11 ct11 : Value}
    (a11 : PySem.W.nsIn K mainGlobals "_law_take" = some (some (.ref f11))) (l11 : K.lookup f11 = some ⟨oc11, od11, .func (PySem.W.fnOf "_law_take" "_law_take" (defArgs s_law_take) (defBody s_law_take) (defScope s_law_take) .none kV11 dc11 pm11 an11 cd11 ct11), sl11⟩) (c11 : PySem.W.codeIn K cd11 "_law_take" = true) (k11 : PySem.W.keepIn K (.ref f11) = true)
    {f12 : Addr} {od12 an12 : Option Addr} {sl12 : Array (Option Value)} {oc12 kV12 dc12 pm12 cd12 ct12 : Value}
    (a12 : PySem.W.nsIn K mainGlobals "_law_same" = some (some (.ref f12))) (l12 : K.lookup f12 = some ⟨oc12, od12, .func (PySem.W.fnOf "_law_same" "_law_same" (defArgs s_law_same) (defBody s_law_same) (defScope s_law_same) .none kV12 dc12 pm12 an12 cd12 ct12), sl12⟩) (c12 : PySem.W.codeIn K cd12 "_law_same" = true) (k12 : PySem.W.keepIn K (.ref f12) = true)
    {f13 : Addr} {od13 an13 : Option Addr} {sl13 : Array (Option Value)} {oc13 kV13 dc13 pm13 cd13 ct13 : Value}
    (a13 : PySem.W.nsIn K mainGlobals "_law_one_of" = some (some (.ref f13))) (l13 : K.lookup f13 = some ⟨oc13, od13, .func (PySem.W.fnOf "_law_one_of" "_law_one_of" (defArgs s_law_one_of) (defBody s_law_one_of) (defScope s_law_one_of) .none kV13 dc13 pm13 an13 cd13 ct13), sl13⟩) (c13 : PySem.W.codeIn K cd13 "_law_one_of" = true) (k13 : PySem.W.keepIn K (.ref f13) = true)
    {f14 : Addr} {od14 an14 : Option Addr} {sl14 : Array (Option Value)} {oc14 kV14 dc14 pm14 cd14 ct14 : Value}
    (a14 : PySem.W.nsIn K mainGlobals "_law_between" = some (some (.ref f14))) (l14 : K.lookup f14 = some ⟨oc14, od14, .func (PySem.W.fnOf "_law_between" "_law_between" (defArgs s_law_between) (defBody s_law_between) (defScope s_law_between) .none kV14 dc14 pm14 an14 cd14 ct14), sl14⟩) (c14 : PySem.W.codeIn K cd14 "_law_between" = true) (k14 : PySem.W.keepIn K (.ref f14) = true)
    {f15 : Addr} {od15 an15 : Option Addr} {sl15 : Array (Option Value)} {oc15 kV15 dc15 pm15 cd15 ct15 : Value}
    (a15 : PySem.W.nsIn K mainGlobals "_law_signs" = some (some (.ref f15))) (l15 : K.lookup f15 = some ⟨oc15, od15, .func (PySem.W.fnOf "_law_signs" "_law_signs" (defArgs s_law_signs) (defBody s_law_signs) (defScope s_law_signs) .none kV15 dc15 pm15 an15 cd15 ct15), sl15⟩) (c15 : PySem.W.codeIn K cd15 "_law_signs" = true) (k15 : PySem.W.keepIn K (.ref f15) = true)
    {f16 : Addr} {od16 an16 : Option Addr} {sl16 : Array (Option Value)} {oc16 kV16 dc16 pm16 cd16 ct16 : Value}
    (a16 : PySem.W.nsIn K mainGlobals "_law_is_text" = some (some (.ref f16))) (l16 : K.lookup f16 = some ⟨oc16, od16, .func (PySem.W.fnOf "_law_is_text" "_law_is_text" (defArgs s_law_is_text) (defBody s_law_is_text) (defScope s_law_is_text) .none kV16 dc16 pm16 an16 cd16 ct16), sl16⟩) (c16 : PySem.W.codeIn K cd16 "_law_is_text" = true) (k16 : PySem.W.keepIn K (.ref f16) = true)
    {f17 : Addr} {od17 an17 : Option Addr} {sl17 : Array (Option Value)} {oc17 kV17 dc17 pm17 cd17 ct17 : Value}
    (a17 : PySem.W.nsIn K mainGlobals "_law_draw_text" = some (some (.ref f17))) (l17 : K.lookup f17 = some ⟨oc17, od17, .func (PySem.W.fnOf "_law_draw_text" "_law_draw_text" (defArgs s_law_draw_text) (defBody s_law_draw_text) (defScope s_law_draw_text) .none kV17 dc17 pm17 an17 cd17 ct17), sl17⟩) (c17 : PySem.W.codeIn K cd17 "_law_draw_text" = true) (k17 : PySem.W.keepIn K (.ref f17) = true)
    {f18 : Addr} {od18 an18 : Option Addr} {sl18 : Array (Option Value)} {oc18 kV18 dc18 pm18 cd18 ct18 : Value}
    (a18 : PySem.W.nsIn K mainGlobals "_law_is_field" = some (some (.ref f18))) (l18 : K.lookup f18 = some ⟨oc18, od18, .func (PySem.W.fnOf "_law_is_field" "_law_is_field" (defArgs s_law_is_field) (defBody s_law_is_field) (defScope s_law_is_field) .none kV18 dc18 pm18 an18 cd18 ct18), sl18⟩) (c18 : PySem.W.codeIn K cd18 "_law_is_field" = true) (k18 : PySem.W.keepIn K (.ref f18) = true)
    {f19 : Addr} {od19 an19 : Option Addr} {sl19 : Array (Option Value)} {oc19 kV19 dc19 pm19 cd19 ct19 : Value}
    (a19 : PySem.W.nsIn K mainGlobals "_law_wrong_text" = some (some (.ref f19))) (l19 : K.lookup f19 = some ⟨oc19, od19, .func (PySem.W.fnOf "_law_wrong_text" "_law_wrong_text" (defArgs s_law_wrong_text) (defBody s_law_wrong_text) (defScope s_law_wrong_text) .none kV19 dc19 pm19 an19 cd19 ct19), sl19⟩) (c19 : PySem.W.codeIn K cd19 "_law_wrong_text" = true) (k19 : PySem.W.keepIn K (.ref f19) = true)
    {f20 : Addr} {od20 an20 : Option Addr} {sl20 : Array (Option Value)} {oc20 kV20 dc20 pm20 cd20 ct20 : Value}
    (a20 : PySem.W.nsIn K mainGlobals "_law_is_setting" = some (some (.ref f20))) (l20 : K.lookup f20 = some ⟨oc20, od20, .func (PySem.W.fnOf "_law_is_setting" "_law_is_setting" (defArgs s_law_is_setting) (defBody s_law_is_setting) (defScope s_law_is_setting) .none kV20 dc20 pm20 an20 cd20 ct20), sl20⟩) (c20 : PySem.W.codeIn K cd20 "_law_is_setting" = true) (k20 : PySem.W.keepIn K (.ref f20) = true)
    {f21 : Addr} {od21 an21 : Option Addr} {sl21 : Array (Option Value)} {oc21 kV21 dc21 pm21 cd21 ct21 : Value}
    (a21 : PySem.W.nsIn K mainGlobals "_law_are_fields" = some (some (.ref f21))) (l21 : K.lookup f21 = some ⟨oc21, od21, .func (PySem.W.fnOf "_law_are_fields" "_law_are_fields" (defArgs s_law_are_fields) (defBody s_law_are_fields) (defScope s_law_are_fields) .none kV21 dc21 pm21 an21 cd21 ct21), sl21⟩) (c21 : PySem.W.codeIn K cd21 "_law_are_fields" = true) (k21 : PySem.W.keepIn K (.ref f21) = true)
    {f22 : Addr} {od22 an22 : Option Addr} {sl22 : Array (Option Value)} {oc22 kV22 dc22 pm22 cd22 ct22 : Value}
    (a22 : PySem.W.nsIn K mainGlobals "_law_are_octets" = some (some (.ref f22))) (l22 : K.lookup f22 = some ⟨oc22, od22, .func (PySem.W.fnOf "_law_are_octets" "_law_are_octets" (defArgs s_law_are_octets) (defBody s_law_are_octets) (defScope s_law_are_octets) .none kV22 dc22 pm22 an22 cd22 ct22), sl22⟩) (c22 : PySem.W.codeIn K cd22 "_law_are_octets" = true) (k22 : PySem.W.keepIn K (.ref f22) = true)
    {f23 : Addr} {od23 an23 : Option Addr} {sl23 : Array (Option Value)} {oc23 kV23 dc23 pm23 cd23 ct23 : Value}
    (a23 : PySem.W.nsIn K mainGlobals "_law_draw_field" = some (some (.ref f23))) (l23 : K.lookup f23 = some ⟨oc23, od23, .func (PySem.W.fnOf "_law_draw_field" "_law_draw_field" (defArgs s_law_draw_field) (defBody s_law_draw_field) (defScope s_law_draw_field) .none kV23 dc23 pm23 an23 cd23 ct23), sl23⟩) (c23 : PySem.W.codeIn K cd23 "_law_draw_field" = true) (k23 : PySem.W.keepIn K (.ref f23) = true)
    {f24 : Addr} {od24 an24 : Option Addr} {sl24 : Array (Option Value)} {oc24 kV24 dc24 pm24 cd24 ct24 : Value}
    (a24 : PySem.W.nsIn K mainGlobals "_law_bent" = some (some (.ref f24))) (l24 : K.lookup f24 = some ⟨oc24, od24, .func (PySem.W.fnOf "_law_bent" "_law_bent" (defArgs s_law_bent) (defBody s_law_bent) (defScope s_law_bent) .none kV24 dc24 pm24 an24 cd24 ct24), sl24⟩) (c24 : PySem.W.codeIn K cd24 "_law_bent" = true) (k24 : PySem.W.keepIn K (.ref f24) = true)
    {f25 : Addr} {od25 an25 : Option Addr} {sl25 : Array (Option Value)} {oc25 kV25 dc25 pm25 cd25 ct25 : Value}
    (a25 : PySem.W.nsIn K mainGlobals "law" = some (some (.ref f25))) (l25 : K.lookup f25 = some ⟨oc25, od25, .func (PySem.W.fnOf "law" "law" (defArgs s_law) (defBody s_law) (defScope s_law) .none kV25 dc25 pm25 an25 cd25 ct25), sl25⟩) (c25 : PySem.W.codeIn K cd25 "law" = true) (k25 : PySem.W.keepIn K (.ref f25) = true)
    {tk0 : Tok} (v0 : PySem.W.nsIn K mainGlobals "NAME_MOST" = some (some (.int 20 tk0)))
    {tk1 : Tok} (v1 : PySem.W.nsIn K mainGlobals "VALUE_MOST" = some (some (.int 40 tk1)))
    {tk2 : Tok} (v2 : PySem.W.nsIn K mainGlobals "FIELDS_MOST" = some (some (.int 16 tk2)))
    {tk3 : Tok} (v3 : PySem.W.nsIn K mainGlobals "FIXED_MOST" = some (some (.int 12 tk3)))
    {tk4 : Tok} (v4 : PySem.W.nsIn K mainGlobals "ROOM_MOST" = some (some (.int 120 tk4)))
    {tk5 : Tok} (v5 : PySem.W.nsIn K mainGlobals "WAITING_MOST" = some (some (.int 4 tk5)))
    {ad6 : Addr} {es6 : Array DictEntry} {nd6 : Nat} (v6 : PySem.W.nsIn K mainGlobals "CHARACTERS" = some (some (.ref ad6))) (w6 : K.lookup ad6 = some ⟨.type "dict", none, .dict es6 nd6, #[]⟩) (e6 : EntI es6.toList chars) (q6 : (ad6 == sysModules) = false)
    (z0 : PySem.W.nsIn K mainGlobals "all" = some none)
    (z1 : PySem.W.nsIn K mainGlobals "bool" = some none)
    (z2 : PySem.W.nsIn K mainGlobals "enumerate" = some none)
    (z3 : PySem.W.nsIn K mainGlobals "int" = some none)
    (z4 : PySem.W.nsIn K mainGlobals "isinstance" = some none)
    (z5 : PySem.W.nsIn K mainGlobals "len" = some none)
    (z6 : PySem.W.nsIn K mainGlobals "list" = some none)
    (z7 : PySem.W.nsIn K mainGlobals "max" = some none)
    (z8 : PySem.W.nsIn K mainGlobals "min" = some none)
    (z9 : PySem.W.nsIn K mainGlobals "ord" = some none)
    (z10 : PySem.W.nsIn K mainGlobals "range" = some none)
    (z11 : PySem.W.nsIn K mainGlobals "repr" = some none)
    (z12 : PySem.W.nsIn K mainGlobals "str" = some none)
    (z13 : PySem.W.nsIn K mainGlobals "tuple" = some none)
    (z14 : PySem.W.nsIn K mainGlobals "zip" = some none)
    : ∃ fd : FuncData, (∀ (s : Shared) (v : Value), BindsTo s fd ⟨[v], []⟩ [("script", v)]) ∧ TopOk l.prog w K mg 15 fa fd ["script"] (spLaw K) := by
  have e := hfa.symm.trans (PySem.W.mg_of X G a25)
  cases e
  have F0 := fun_mk (st := s_is_between) l0 c0 k0
  have b0 := F0.binds (ps := ["thing", "least", "most"]) fun _ _ _ _ _ _ us hl => match us, hl with | [_, _, _], _ => rfl
  have F1 := fun_mk (st := s_is_text) l1 c1 k1
  have b1 := F1.binds (ps := ["thing", "least", "most"]) fun _ _ _ _ _ _ us hl => match us, hl with | [_, _, _], _ => rfl
  have F2 := fun_mk (st := s_is_name) l2 c2 k2
  have b2 := F2.binds (ps := ["thing"]) fun _ _ _ _ _ _ us hl => match us, hl with | [_], _ => rfl
  have F3 := fun_mk (st := s_is_value) l3 c3 k3
  have b3 := F3.binds (ps := ["thing"]) fun _ _ _ _ _ _ us hl => match us, hl with | [_], _ => rfl
  have F4 := fun_mk (st := s_is_field) l4 c4 k4
  have b4 := F4.binds (ps := ["thing"]) fun _ _ _ _ _ _ us hl => match us, hl with | [_], _ => rfl
  have F5 := fun_mk (st := s_is_tuple_of_fields) l5 c5 k5
  have b5 := F5.binds (ps := ["thing", "most"]) fun _ _ _ _ _ _ us hl => match us, hl with | [_, _], _ => rfl
  have F6 := fun_mk (st := s_are_fields) l6 c6 k6
  have b6 := F6.binds (ps := ["thing"]) fun _ _ _ _ _ _ us hl => match us, hl with | [_], _ => rfl
  have F7 := fun_mk (st := s_is_setting) l7 c7 k7
  have b7 := F7.binds (ps := ["thing"]) fun _ _ _ _ _ _ us hl => match us, hl with | [_], _ => rfl
  have F8 := fun_mk (st := s_are_octets) l8 c8 k8
  have b8 := F8.binds (ps := ["thing"]) fun _ _ _ _ _ _ us hl => match us, hl with | [_], _ => rfl
  have F9 := fun_mk (st := s_law_open) l9 c9 k9
  have b9 := F9.binds (ps := ["script"]) fun _ _ _ _ _ _ us hl => match us, hl with | [_], _ => rfl
  have F10 := fun_mk (st := s_law_spread) l10 c10 k10
  have b10 := F10.binds (ps := ["cell", "at"]) fun _ _ _ _ _ _ us hl => match us, hl with | [_, _], _ => rfl
  have F11 := fun_mk (st := s_law_take) l11 c11 k11
  have b11 := F11.binds (ps := ["pen", "amount"]) fun _ _ _ _ _ _ us hl => match us, hl with | [_, _], _ => rfl
  have F12 := fun_mk (st := s_law_same) l12 c12 k12
  have b12 := F12.binds (ps := ["found", "due"]) fun _ _ _ _ _ _ us hl => match us, hl with | [_, _], _ => rfl
  have F13 := fun_mk (st := s_law_one_of) l13 c13 k13
  have b13 := F13.binds (ps := ["pen", "some"]) fun _ _ _ _ _ _ us hl => match us, hl with | [_, _], _ => rfl
  have F14 := fun_mk (st := s_law_between) l14 c14 k14
  have b14 := F14.binds (ps := ["value", "low", "high"]) fun _ _ _ _ _ _ us hl => match us, hl with | [_, _, _], _ => rfl
  have F15 := fun_mk (st := s_law_signs) l15 c15 k15
  have b15 := F15.binds (ps := []) fun _ _ _ _ _ _ us hl => match us, hl with | [], _ => rfl
  have F16 := fun_mk (st := s_law_is_text) l16 c16 k16
  have b16 := F16.binds (ps := ["value", "least", "most"]) fun _ _ _ _ _ _ us hl => match us, hl with | [_, _, _], _ => rfl
  have F17 := fun_mk (st := s_law_draw_text) l17 c17 k17
  have b17 := F17.binds (ps := ["pen", "least", "most"]) fun _ _ _ _ _ _ us hl => match us, hl with | [_, _, _], _ => rfl
  have F18 := fun_mk (st := s_law_is_field) l18 c18 k18
  have b18 := F18.binds (ps := ["value"]) fun _ _ _ _ _ _ us hl => match us, hl with | [_], _ => rfl
  have F19 := fun_mk (st := s_law_wrong_text) l19 c19 k19
  have b19 := F19.binds (ps := ["pen"]) fun _ _ _ _ _ _ us hl => match us, hl with | [_], _ => rfl
  have F20 := fun_mk (st := s_law_is_setting) l20 c20 k20
  have b20 := F20.binds (ps := ["value"]) fun _ _ _ _ _ _ us hl => match us, hl with | [_], _ => rfl
  have F21 := fun_mk (st := s_law_are_fields) l21 c21 k21
  have b21 := F21.binds (ps := ["value"]) fun _ _ _ _ _ _ us hl => match us, hl with | [_], _ => rfl
  have F22 := fun_mk (st := s_law_are_octets) l22 c22 k22
  have b22 := F22.binds (ps := ["value"]) fun _ _ _ _ _ _ us hl => match us, hl with | [_], _ => rfl
  have F23 := fun_mk (st := s_law_draw_field) l23 c23 k23
  have b23 := F23.binds (ps := ["pen"]) fun _ _ _ _ _ _ us hl => match us, hl with | [_], _ => rfl
  have F24 := fun_mk (st := s_law_bent) l24 c24 k24
  have b24 := F24.binds (ps := ["pen", "value"]) fun _ _ _ _ _ _ us hl => match us, hl with | [_, _], _ => rfl
  have F25 := fun_mk (st := s_law) l25 c25 k25
  have b25 := F25.binds (ps := ["script"]) fun _ _ _ _ _ _ us hl => match us, hl with | [_], _ => rfl
  let T : Txt K mg := {
    f_is_between := f0
    d_is_between := _
    F_is_between := F0
    b_is_between := b0
    g_is_between := PySem.W.mg_of X G a0
    f_is_text := f1
    d_is_text := _
    F_is_text := F1
    b_is_text := b1
    g_is_text := PySem.W.mg_of X G a1
    f_is_name := f2
    d_is_name := _
    F_is_name := F2
    b_is_name := b2
    g_is_name := PySem.W.mg_of X G a2
    f_is_value := f3
    d_is_value := _
    F_is_value := F3
    b_is_value := b3
    g_is_value := PySem.W.mg_of X G a3
    f_is_field := f4
    d_is_field := _
    F_is_field := F4
    b_is_field := b4
    g_is_field := PySem.W.mg_of X G a4
    f_is_tuple_of_fields := f5
    d_is_tuple_of_fields := _
    F_is_tuple_of_fields := F5
    b_is_tuple_of_fields := b5
    g_is_tuple_of_fields := PySem.W.mg_of X G a5
    f_are_fields := f6
    d_are_fields := _
    F_are_fields := F6
    b_are_fields := b6
    g_are_fields := PySem.W.mg_of X G a6
    f_is_setting := f7
    d_is_setting := _
    F_is_setting := F7
    b_is_setting := b7
    g_is_setting := PySem.W.mg_of X G a7
    f_are_octets := f8
    d_are_octets := _
    F_are_octets := F8
    b_are_octets := b8
    g_are_octets := PySem.W.mg_of X G a8
    f_law_open := f9
    d_law_open := _
    F_law_open := F9
    b_law_open := b9
    g_law_open := PySem.W.mg_of X G a9
    f_law_spread := f10
    d_law_spread := _
    F_law_spread := F10
    b_law_spread := b10
    g_law_spread := PySem.W.mg_of X G a10
    f_law_take := f11
    d_law_take := _
    F_law_take := F11
    b_law_take := b11
    g_law_take := PySem.W.mg_of X G a11
    f_law_same := f12
    d_law_same := _
    F_law_same := F12
    b_law_same := b12
    g_law_same := PySem.W.mg_of X G a12
    f_law_one_of := f13
    d_law_one_of := _
    F_law_one_of := F13
    b_law_one_of := b13
    g_law_one_of := PySem.W.mg_of X G a13
    f_law_between := f14
    d_law_between := _
    F_law_between := F14
    b_law_between := b14
    g_law_between := PySem.W.mg_of X G a14
    f_law_signs := f15
    d_law_signs := _
    F_law_signs := F15
    b_law_signs := b15
    g_law_signs := PySem.W.mg_of X G a15
    f_law_is_text := f16
    d_law_is_text := _
    F_law_is_text := F16
    b_law_is_text := b16
    g_law_is_text := PySem.W.mg_of X G a16
    f_law_draw_text := f17
    d_law_draw_text := _
    F_law_draw_text := F17
    b_law_draw_text := b17
    g_law_draw_text := PySem.W.mg_of X G a17
    f_law_is_field := f18
    d_law_is_field := _
    F_law_is_field := F18
    b_law_is_field := b18
    g_law_is_field := PySem.W.mg_of X G a18
    f_law_wrong_text := f19
    d_law_wrong_text := _
    F_law_wrong_text := F19
    b_law_wrong_text := b19
    g_law_wrong_text := PySem.W.mg_of X G a19
    f_law_is_setting := f20
    d_law_is_setting := _
    F_law_is_setting := F20
    b_law_is_setting := b20
    g_law_is_setting := PySem.W.mg_of X G a20
    f_law_are_fields := f21
    d_law_are_fields := _
    F_law_are_fields := F21
    b_law_are_fields := b21
    g_law_are_fields := PySem.W.mg_of X G a21
    f_law_are_octets := f22
    d_law_are_octets := _
    F_law_are_octets := F22
    b_law_are_octets := b22
    g_law_are_octets := PySem.W.mg_of X G a22
    f_law_draw_field := f23
    d_law_draw_field := _
    F_law_draw_field := F23
    b_law_draw_field := b23
    g_law_draw_field := PySem.W.mg_of X G a23
    f_law_bent := f24
    d_law_bent := _
    F_law_bent := F24
    b_law_bent := b24
    g_law_bent := PySem.W.mg_of X G a24
    f_law := fa
    d_law := _
    F_law := F25
    b_law := b25
    g_law := PySem.W.mg_of X G a25
    t_NAME_MOST := tk0
    g_NAME_MOST := PySem.W.mg_of X G v0
    t_VALUE_MOST := tk1
    g_VALUE_MOST := PySem.W.mg_of X G v1
    t_FIELDS_MOST := tk2
    g_FIELDS_MOST := PySem.W.mg_of X G v2
    t_FIXED_MOST := tk3
    g_FIXED_MOST := PySem.W.mg_of X G v3
    t_ROOM_MOST := tk4
    g_ROOM_MOST := PySem.W.mg_of X G v4
    t_WAITING_MOST := tk5
    g_WAITING_MOST := PySem.W.mg_of X G v5
    a_CHARACTERS := ad6
    g_CHARACTERS := PySem.W.mg_of X G v6
    CHARACTERS_d := ⟨⟨_, _, w6, e6⟩, q6⟩
    z_all := PySem.W.mg_none_of X G z0
    z_bool := PySem.W.mg_none_of X G z1
    z_enumerate := PySem.W.mg_none_of X G z2
    z_int := PySem.W.mg_none_of X G z3
    z_isinstance := PySem.W.mg_none_of X G z4
    z_len := PySem.W.mg_none_of X G z5
    z_list := PySem.W.mg_none_of X G z6
    z_max := PySem.W.mg_none_of X G z7
    z_min := PySem.W.mg_none_of X G z8
    z_ord := PySem.W.mg_none_of X G z9
    z_range := PySem.W.mg_none_of X G z10
    z_repr := PySem.W.mg_none_of X G z11
    z_str := PySem.W.mg_none_of X G z12
    z_tuple := PySem.W.mg_none_of X G z13
    z_zip := PySem.W.mg_none_of X G z14
  }
  exact ⟨PySem.W.fnOf "law" "law" (defArgs s_law) (defBody s_law) (defScope s_law) .none kV25 dc25 pm25 an25 cd25 ct25, fun s v => .of_eq rfl, ok_law T⟩
theorem walk {l : PySem.W.OpenLaw} {q : Program} {loose : List Str} {XP : (Str → Option Value) → Heap → Prop} {YP : World → Heap → Prop} {d : DefRec} {K : Params → PySem.W.Frag} (hn : l.most = some 63) (hdf : d.params.defaults = [])
    (hY : ∀ (w : World) (h : Heap), YP w h → (K w.params).In h)
    (F : ∀ (w : World) (mg : Str → Option Value) (fa : Addr) (h : Heap), (K w.params).In h → h.Ns mainGlobals mg → mg d.name = some (.ref fa) →
      ∃ fd : FuncData, (∀ (s : Shared) (u : Value), BindsTo s fd ⟨[u], []⟩ [("script", u)]) ∧ TopOk l.prog w (K w.params) mg 15 fa fd ["script"] (spLaw (K w.params))) :
    PySem.W.WalkO q loose XP YP l.row.toRowW d [] (fun f vs => PySem.call f vs) :=
  walk_top (n := 63) (k := 15) (x := "script") (sp := fun w => spLaw (K w.params)) hn (by decide) hdf ⟨rfl, by decide, by decide⟩ hY F fun _ _ a ns hl _ hS => ⟨a, ns, rfl, hS, hl, fun _ => rfl⟩
end Fld
open PySem PySem.W PyProof.Rows
set_option maxRecDepth 100000 in
set_option maxHeartbeats 0 in
theorem PySem.Challenge.cw_fieldtable_k03_fields_and_settings_recog_holds : PySem.Challenge.rw_fieldtable_k03_fields_and_settings_recog.Holds := by
  w_on; o_law; k_head; (case hw => w_witness2)
  k_fill
  refine Fld.walk (l := PySem.Challenge.rw_fieldtable_k03_fields_and_settings_recog) rfl rfl (fun w h Y => PySem.W.kIn_of Y) ?F
  case F =>
    intro w mg fa h KX G hmg
    refine' Fld.all_mk KX G hmg ?a0 ?l0 ?c0 ?k0 ?a1 ?l1 ?c1 ?k1 ?a2 ?l2 ?c2 ?k2 ?a3 ?l3 ?c3 ?k3 ?a4 ?l4 ?c4 ?k4 ?a5 ?l5 ?c5 ?k5 ?a6 ?l6 ?c6 ?k6 ?a7 ?l7 ?c7 ?k7 ?a8 ?l8 ?c8 ?k8 ?a9 ?l9 ?c9 ?k9 ?a10 ?l10 ?c10 ?k10 ?a11 ?l11 ?c11 ?k11 ?a12 ?l12 ?c12 ?k12 ?a13 ?l13 ?c13 ?k13 ?a14 ?l14 ?c14 ?k14 ?a15 ?l15 ?c15 ?k15 ?a16 ?l16 ?c16 ?k16 ?a17 ?l17 ?c17 ?k17 ?a18 ?l18 ?c18 ?k18 ?a19 ?l19 ?c19 ?k19 ?a20 ?l20 ?c20 ?k20 ?a21 ?l21 ?c21 ?k21 ?a22 ?l22 ?c22 ?k22 ?a23 ?l23 ?c23 ?k23 ?a24 ?l24 ?c24 ?k24 ?a25 ?l25 ?c25 ?k25 ?v0 ?v1 ?v2 ?v3 ?v4 ?v5 ?v6 ?w6 ?e6 ?q6 ?z0 ?z1 ?z2 ?z3 ?z4 ?z5 ?z6 ?z7 ?z8 ?z9 ?z10 ?z11 ?z12 ?z13 ?z14
    (case a0 => k_is)
    (case l0 => k_is)
    (case c0 => k_is)
    (case k0 => k_is)
    (case a1 => k_is)
    (case l1 => k_is)
    (case c1 => k_is)
    (case k1 => k_is)
    (case a2 => k_is)
    (case l2 => k_is)
    (case c2 => k_is)
    (case k2 => k_is)
    (case a3 => k_is)
    (case l3 => k_is)
    (case c3 => k_is)
    (case k3 => k_is)
    (case a4 => k_is)
    (case l4 => k_is)
    (case c4 => k_is)
    (case k4 => k_is)
    (case a5 => k_is)
    (case l5 => k_is)
    (case c5 => k_is)
    (case k5 => k_is)
    (case a6 => k_is)
    (case l6 => k_is)
    (case c6 => k_is)
    (case k6 => k_is)
    (case a7 => k_is)
    (case l7 => k_is)
    (case c7 => k_is)
    (case k7 => k_is)
    (case a8 => k_is)
    (case l8 => k_is)
    (case c8 => k_is)
    (case k8 => k_is)
    (case a9 => k_is)
    (case l9 => k_is)
    (case c9 => k_is)
    (case k9 => k_is)
    (case a10 => k_is)
    (case l10 => k_is)
    (case c10 => k_is)
    (case k10 => k_is)
    (case a11 => k_is)
    (case l11 => k_is)
    (case c11 => k_is)
    (case k11 => k_is)
    (case a12 => k_is)
    (case l12 => k_is)
    (case c12 => k_is)
    (case k12 => k_is)
    (case a13 => k_is)
    (case l13 => k_is)
    (case c13 => k_is)
    (case k13 => k_is)
    (case a14 => k_is)
    (case l14 => k_is)
    (case c14 => k_is)
    (case k14 => k_is)
    (case a15 => k_is)
    (case l15 => k_is)
    (case c15 => k_is)
    (case k15 => k_is)
    (case a16 => k_is)
    (case l16 => k_is)
    (case c16 => k_is)
    (case k16 => k_is)
    (case a17 => k_is)
    (case l17 => k_is)
    (case c17 => k_is)
    (case k17 => k_is)
    (case a18 => k_is)
    (case l18 => k_is)
    (case c18 => k_is)
    (case k18 => k_is)
    (case a19 => k_is)
    (case l19 => k_is)
    (case c19 => k_is)
    (case k19 => k_is)
    (case a20 => k_is)
    (case l20 => k_is)
    (case c20 => k_is)
    (case k20 => k_is)
    (case a21 => k_is)
    (case l21 => k_is)
    (case c21 => k_is)
    (case k21 => k_is)
    (case a22 => k_is)
    (case l22 => k_is)
    (case c22 => k_is)
    (case k22 => k_is)
    (case a23 => k_is)
    (case l23 => k_is)
    (case c23 => k_is)
    (case k23 => k_is)
    (case a24 => k_is)
    (case l24 => k_is)
    (case c24 => k_is)
    (case k24 => k_is)
    (case a25 => k_is)
    (case l25 => k_is)
    (case c25 => k_is)
    (case k25 => k_is)
    (case v0 => k_is)
    (case v1 => k_is)
    (case v2 => k_is)
    (case v3 => k_is)
    (case v4 => k_is)
    (case v5 => k_is)
    (case v6 => k_is)
    (case w6 => k_is)
    (case e6 => repeat (first | exact Paired.nil | refine Paired.cons ⟨⟨_, rfl⟩, rfl, ⟨_, rfl⟩⟩ ?_))
    (case q6 => first | rfl | decide +kernel | k_is)
    (case z0 => k_is)
    (case z1 => k_is)
    (case z2 => k_is)
    (case z3 => k_is)
    (case z4 => k_is)
    (case z5 => k_is)
    (case z6 => k_is)
    (case z7 => k_is)
    (case z8 => k_is)
    (case z9 => k_is)
    (case z10 => k_is)
    (case z11 => k_is)
    (case z12 => k_is)
    (case z13 => k_is)
    (case z14 => k_is)
