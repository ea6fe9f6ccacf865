import PyProof.Rows.All
import Wide.All
import OpenK.AllK
import Wide.FinOn
import KE.KStateDown
import HandS.ForMost
import HandS.ForExc
import HandS.Star
import HandS.MethStar
import HandS.FStr
import HandS.Flow
import HandS.Evl
import HandS.Zip
import HandS.NoneIn
import HandS.CallRecv
import HandS.IsInst
import HandS.StrMore
import HandS.Strs
import HandS.Deep
import HandS.ExcInit
import HandS.TryOnly
import HandS.Defaults
import HandS.EndBits
import HandS.ClsMeth
import HandS.HeadHook1
import HandS.Head0
import HandS.Head1
import HandS.Head2
import HandS.HeadEnd
import HandS.HeadHook2
import HandS.HeadHook3
import HandS.HeadHook4
import HandS.HeadWalk
import PySem.Challenge.RW_shelfbots_k08_free_starts_of_plans
import HandS.Walk
import HandS.SetKeys
import KE.KDictKeyed
import HandS.Conv
import KE.GoesEnum
import KE.DataFind
import HandS.GenList
import HandS.TupAny
import HandS.Style
import HandS.Small
set_option Elab.async false
set_option linter.all false
set_option maxRecDepth 100000
set_option maxHeartbeats 4000000
namespace SB
open PySem PySem.Spec PyProof.Rows L2
section
variable {X : Cx} {CX : CXT} {k : Nat} {C f : Addr} {x m : Str} {sp : Sp} {E : XK} {o e : Expr} {es : List Expr} {ta te : TE} {t : TA} {p apos pos : Pos}
/-- a constant of the module -/
theorem pe_gi {i : Int} (h : ∃ t, X.mg x = some (.int i t)) (hg : Gl X x := by rfl) (hd : (x == ("__debug__" : Str)) = false := by decide) : PE X (.Name x pos) (tC (.int i)) := by
  obtain ⟨t, h⟩ := h
  exact pe_glob hg h ⟨t, rfl⟩ hd
theorem pe_gs {z : Str} (h : ∃ t, X.mg x = some (.str z t)) (hg : Gl X x := by rfl) (hd : (x == ("__debug__" : Str)) = false := by decide) : PE X (.Name x pos) (tC (.str z)) := by
  obtain ⟨t, h⟩ := h
  exact pe_glob hg h ⟨t, rfl⟩ hd
theorem pe_gr {a : Addr} (h : X.mg x = some (.ref a)) (hg : Gl X x := by rfl) (hd : (x == ("__debug__" : Str)) = false := by decide) : PE X (.Name x pos) (tC (.ref a)) := pe_glob hg h rfl hd
/-- f(e, ..) by a positional promise -/
def tCallR (sp : Sp) (E : XK) (t : TA) : TE := fun σ H Q => t σ H fun vs H1 => sp vs H1 Q E
theorem pe_callR (F : FnR X.prog X.w X.K X.mg X.base CX k f sp) (hr : Room k X.A) (hm : X.mg x = some (.ref f)) (hk : PySem.W.keepIn X.K (.ref f) = true) (hx : Passes CX X E)
    (ha : PA X (e :: es) t) (hg : Gl X x := by rfl) (hdb : (x == ("__debug__" : Str)) = false := by decide) (he : starEach (e :: es) X.env = (false, eval e X.env) :: starEach es X.env := by rfl) (hpl : (backTo pos (starEach es X.env)).any (·.1) = false := by rfl) :
    PE X (.Call (.Name x p) (e :: es) [] pos) (tCallR sp E t) := by
  refine ⟨fun pins s σ H Q I h => ?_⟩
  refine wpAny_Call_Name_kw (ld_glob I hg hm ?_ hdb)
  refine PySem.W.callWith_K (h₀ := X.base) I.ok.mod.kin hk (thn (ha.run pos pins s σ H _ I h) fun us s1 ⟨vs, H1, I1, r, q⟩ => ⟨I1.kIn, ?_⟩) he hpl
  exact wpAny_call (run_fnR F hr hx I1 r q)
/-- o.m() by a positional promise -/
def tMethR0 (C : Addr) (m : Str) (sp : Sp) (E : XK) (ta : TE) : TE := fun σ H Q => ta σ H fun x H1 => ∃ a dx fs, x = .ref a ∧ H1 a = some (.ins C dx fs) ∧ fs.lookup m = none ∧ sp [x] H1 Q E
theorem pe_methR0 {pl : Sem Bool} (he : PE X o ta) (c : Cls X.K C) (hm : Meth X.K C m f)
    (F : FnR X.prog X.w X.K X.mg X.base CX k f sp) (hr : Room k X.A) (hx : Passes CX X E)
    (ht : eval (.Call (.Attribute o m apos) [] [] pos) X.env = (do
      let ov ← eval o X.env
      standAt apos.atName
      let (f, first) ← holding [ov] (getMethod ov m pl)
      callWith pos f first (backTo pos (starEach [] X.env)) (backToKw pos (keywordEach [] X.env))) := by rfl) :
    PE X (.Call (.Attribute o m apos) [] [] pos) (tMethR0 C m sp E ta) := by
  refine ⟨fun pins s σ H Q I h => ?_⟩
  refine PySem.W.methodCall_KW (pl := pl) (thn (he.run pins s σ H _ I h) fun u s1 ⟨x, H1, I1, rx, a, dx, fs, ex, ea, l, q⟩ => ?_) ht
  subst ex
  obtain rfl : u = Value.ref a := rx
  refine getmeth_ok I1 ea c hm l ?_
  exact PySem.W.callWith_K0 (first := [.ref a]) I1.kIn hm.kp (wpAny_call (run_fnR (us := [.ref a]) (vs := [.ref a]) F hr hx I1 (.cons rfl .nil) q))
end
/-- what a callee lets out goes on to the caller of this def -/
theorem px {P : Program} {w : World} {K : PySem.W.Frag} {mg : Str → Option Value} {base : Heap} {N : List Str} {qual : Str} {sc : Scope} {f : Addr} {cdv : Value} {A : Around} {outer : List Env} {s : Shared} {H : Hp} {E : XK} :
    Passes (L2.CX P w) (cxOf (L2.CX P w) P w K mg base N qual sc f cdv A outer s H E) E := passes_call (takes_of rfl rfl rfl rfl) (fun _ _ _ _ h => h)
end SB

set_option maxHeartbeats 4000000
namespace SB
open PySem PySem.Spec PyProof.Rows L2
open TL (tl)
/-! ### the lexer, as a plain function -/
def isL (c : Nat) : Bool := decide (97 ≤ c) && decide (c ≤ 122)
def isD (c : Nat) : Bool := decide (48 ≤ c) && decide (c ≤ 57)
def mkS (l : List Nat) : Str := ⟨l.toArray⟩
theorem tl_mkS (l : List Nat) : tl (mkS l) = l := rfl
theorem mkS_tl (z : Str) : mkS (tl z) = z := by
  obtain ⟨a⟩ := z
  show Str.mk (a.toList.toArray) = _
  simp
theorem mkS_len (l : List Nat) : (mkS l).length = l.length := by simp [mkS, Str.length]
theorem len_tl (z : Str) : (tl z).length = z.length := by
  obtain ⟨a⟩ := z
  simp [tl, Str.length]
theorem mkS_inj {a b : List Nat} (h : mkS a = mkS b) : a = b := by
  have := congrArg tl h
  simpa [tl_mkS] using this
def letters : Str := "abcdefghijklmnopqrstuvwxyz"
def digits : Str := "0123456789"
theorem letters_eq : letters = mkS ((List.range 26).map (· + 97)) := by decide +kernel
theorem digits_eq : digits = mkS ((List.range 10).map (· + 48)) := by decide +kernel
theorem mem_letters (c : Nat) : decide (c ∈ letters.cps.toList) = isL c := by
  have e : letters.cps.toList = (List.range 26).map (· + 97) := by rw [letters_eq]; rfl
  rw [e]
  unfold isL
  rw [← Bool.decide_and]
  apply decide_eq_decide.mpr
  simp only [List.mem_map, List.mem_range]
  constructor
  · rintro ⟨a, h1, h2⟩; omega
  · intro h; exact ⟨c - 97, by omega, by omega⟩
theorem mem_digits (c : Nat) : decide (c ∈ digits.cps.toList) = isD c := by
  have e : digits.cps.toList = (List.range 10).map (· + 48) := by rw [digits_eq]; rfl
  rw [e]
  unfold isD
  rw [← Bool.decide_and]
  apply decide_eq_decide.mpr
  simp only [List.mem_map, List.mem_range]
  constructor
  · rintro ⟨a, h1, h2⟩; omega
  · intro h; exact ⟨c - 48, by omega, by omega⟩
/-- the word, the digits or the single sign at the head -/
def longest (l : List Nat) : List Nat :=
  if (l.takeWhile isL).isEmpty then (if (l.takeWhile isD).isEmpty then l.take 1 else l.takeWhile isD) else l.takeWhile isL
def keyw : List Str := ["shelf", "robot", "left", "right", "pick", "put", "wait", "goto", "empty", "held"]
def sign : List Str := [";", ":", "{", "}"]
def validNum (t : List Nat) : Bool := decide (t.length ≤ 2) && (decide (t = [48]) || !decide (t.head? = some 48))
def kindOf (t : List Nat) : Option Str :=
  if decide (mkS t ∈ keyw) || decide (mkS t ∈ sign) then some (mkS t)
  else match t with
    | [] => none
    | c :: _ => if isL c && decide (t.length ≤ 8) then some "name" else if isD c && validNum t then some "number" else none
structure Tk where
  kind : Str
  text : Str
  line : Nat
  col : Nat
  deriving DecidableEq
abbrev Res := Except (Nat × Nat) (List Tk)
def withFront (acc : List Tk) : Res → Res
  | .ok ts => .ok (acc ++ ts)
  | .error e => .error e
theorem withFront_app (a b : List Tk) (r : Res) : withFront (a ++ b) r = withFront a (withFront b r) := by
  cases r <;> simp [withFront]
theorem withFront_nil (r : Res) : withFront [] r = r := by cases r <;> simp [withFront]
/-- one row; the fuel is at least its length -/
def readRow : Nat → List Nat → Nat → Nat → Res
  | 0, _, _, _ => .ok []
  | _ + 1, [], _, _ => .ok []
  | n + 1, c :: r, line, col =>
    if c = 32 then readRow n r line (col + 1)
    else match kindOf (longest (c :: r)) with
      | none => .error (line, col)
      | some k => withFront [⟨k, mkS (longest (c :: r)), line, col⟩] (readRow n ((c :: r).drop (longest (c :: r)).length) line (col + (longest (c :: r)).length))
theorem readRow_nil (n line col : Nat) : readRow n [] line col = .ok [] := by cases n <;> rfl
theorem readRow_blank {n : Nat} {r : List Nat} {line col : Nat} : readRow (n + 1) (32 :: r) line col = readRow n r line (col + 1) := by simp [readRow]
theorem readRow_tok {n c : Nat} {r : List Nat} {line col : Nat} {k : Str} (h : c ≠ 32) (hk : kindOf (longest (c :: r)) = some k) :
    readRow (n + 1) (c :: r) line col = withFront [⟨k, mkS (longest (c :: r)), line, col⟩] (readRow n ((c :: r).drop (longest (c :: r)).length) line (col + (longest (c :: r)).length)) := by
  simp only [readRow, if_neg h, hk]
theorem readRow_bad {n c : Nat} {r : List Nat} {line col : Nat} (h : c ≠ 32) (hk : kindOf (longest (c :: r)) = none) : readRow (n + 1) (c :: r) line col = .error (line, col) := by
  simp only [readRow, if_neg h, hk]
def readRows : List Str → Nat → Res
  | [], _ => .ok []
  | z :: r, line => match readRow z.length (tl z) line 0 with
    | .error e => .error e
    | .ok ts => withFront ts (readRows r (line + 1))
def endTk (n : Nat) : Tk := ⟨"end", "", n, 0⟩
def lexAll (z : Str) : Res := match readRows (Txt.split z "\n") 0 with
  | .error e => .error e
  | .ok ts => .ok (ts ++ [endTk (Txt.split z "\n").length])
theorem takeWhile_le (p : Nat → Bool) : ∀ l : List Nat, (l.takeWhile p).length ≤ l.length
  | [] => Nat.le_refl _
  | a :: l => by
    simp only [List.takeWhile]
    split
    · simp only [List.length_cons]
      have := takeWhile_le p l
      omega
    · simp
theorem longest_pos (c : Nat) (r : List Nat) : 0 < (longest (c :: r)).length := by
  unfold longest
  split
  · split
    · simp
    · rename_i h1 h2
      cases h : (c :: r).takeWhile isD with
      | nil => rw [h] at h2; simp at h2
      | cons a b => simp
  · rename_i h1
    cases h : (c :: r).takeWhile isL with
    | nil => rw [h] at h1; simp at h1
    | cons a b => simp
theorem longest_le (l : List Nat) : (longest l).length ≤ l.length := by
  unfold longest
  split
  · split
    · rw [List.length_take]; omega
    · exact takeWhile_le _ _
  · exact takeWhile_le _ _
theorem longest_L {l : List Nat} (h : l.takeWhile isL ≠ []) : longest l = l.takeWhile isL := by
  unfold longest
  rw [if_neg]
  intro q
  exact h (List.isEmpty_iff.mp q)
theorem longest_D {l : List Nat} (h0 : l.takeWhile isL = []) (h : l.takeWhile isD ≠ []) : longest l = l.takeWhile isD := by
  unfold longest
  rw [if_pos (List.isEmpty_iff.mpr h0), if_neg]
  intro q
  exact h (List.isEmpty_iff.mp q)
theorem longest_1 {l : List Nat} (h0 : l.takeWhile isL = []) (h1 : l.takeWhile isD = []) : longest l = l.take 1 := by
  unfold longest
  rw [if_pos (List.isEmpty_iff.mpr h0), if_pos (List.isEmpty_iff.mpr h1)]
theorem takeWhile_take (p : Nat → Bool) : ∀ l : List Nat, l.take (l.takeWhile p).length = l.takeWhile p
  | [] => rfl
  | a :: l => by
    simp only [List.takeWhile]
    split
    · simp only [List.length_cons, List.take_succ_cons]
      rw [takeWhile_take p l]
    · simp
theorem longest_take (l : List Nat) : l.take (longest l).length = longest l := by
  unfold longest
  split
  · split
    · cases l <;> simp
    · exact takeWhile_take _ _
  · exact takeWhile_take _ _
theorem withFront_ok {a ts : List Tk} {r : Res} (h : withFront a r = .ok ts) : ∃ t2, r = .ok t2 ∧ ts = a ++ t2 := by
  cases r with
  | error e => cases h
  | ok t2 => exact ⟨t2, rfl, (Except.ok.inj h).symm⟩
theorem readRow_len : ∀ (n : Nat) (l : List Nat) (line col : Nat) (ts : List Tk), readRow n l line col = .ok ts → ts.length ≤ l.length
  | 0, l, line, col, ts, h => by
    obtain rfl := Except.ok.inj h
    simp
  | n + 1, [], line, col, ts, h => by
    obtain rfl := Except.ok.inj h
    simp
  | n + 1, c :: r, line, col, ts, h => by
    by_cases q : c = 32
    · subst q
      rw [readRow_blank] at h
      have := readRow_len n r line (col + 1) ts h
      simp
      omega
    · cases hk : kindOf (longest (c :: r)) with
      | none =>
        rw [readRow_bad q hk] at h
        cases h
      | some k =>
        rw [readRow_tok q hk] at h
        obtain ⟨t2, h2, rfl⟩ := withFront_ok h
        have := readRow_len n _ line _ t2 h2
        rw [List.length_drop] at this
        have h3 := longest_pos c r
        have h4 := longest_le (c :: r)
        simp only [List.length_append, List.length_singleton]
        omega
theorem app_len' (a b : Str) : (a ++ b).length = a.length + b.length := by
  show (a.cps ++ b.cps).size = _
  rw [Array.size_append]
  rfl
theorem join_len (y : Str) (hy : y.length = 1) : ∀ parts : List Str, parts ≠ [] → (Str.join y parts).length + 1 = (parts.map Str.length).sum + parts.length
  | [], h => absurd rfl h
  | [x], _ => by simp [Str.join]
  | x :: z :: r, _ => by
    have ih := join_len y hy (z :: r) (by simp)
    show (x ++ y ++ Str.join y (z :: r)).length + 1 = _
    rw [app_len', app_len', hy]
    simp only [List.map_cons, List.sum_cons, List.length_cons] at ih ⊢
    omega
theorem nl_len : (("\n" : Str)).length = 1 := by decide +kernel
theorem rows_len (z : Str) : ((Txt.split z "\n").map Str.length).sum + (Txt.split z "\n").length = z.length + 1 := by
  have h := join_len "\n" nl_len (Txt.split z "\n") (by
    intro e
    have := PyProof.Rows.split_pos z "\n"
    rw [e] at this
    simp at this)
  have e := PySem.StrLaws.join_split z "\n"
  rw [e] at h
  omega
theorem readRows_cons_ok {z : Str} {r : List Str} {line : Nat} {ts : List Tk} (h : readRow z.length (tl z) line 0 = .ok ts) : readRows (z :: r) line = withFront ts (readRows r (line + 1)) := by
  simp only [readRows, h]
theorem readRows_cons_bad {z : Str} {r : List Str} {line : Nat} {e : Nat × Nat} (h : readRow z.length (tl z) line 0 = .error e) : readRows (z :: r) line = .error e := by
  simp only [readRows, h]
theorem sum_take_le : ∀ (l : List Nat) (i : Nat) (x : Nat), l[i]? = some x → (l.take i).sum + x = (l.take (i + 1)).sum
  | [], i, x, h => by simp at h
  | a :: l, 0, x, h => by
    obtain rfl : a = x := Option.some.inj h
    simp
  | a :: l, i + 1, x, h => by
    have := sum_take_le l i x h
    simp only [List.take_succ_cons, List.sum_cons]
    omega
theorem sum_take_all (l : List Nat) (i : Nat) : (l.take i).sum ≤ l.sum := by
  induction l generalizing i with
  | nil => simp
  | cons a l ih =>
    cases i with
    | zero => simp
    | succ i =>
      have := ih i
      simp only [List.take_succ_cons, List.sum_cons]
      omega
end SB

set_option maxHeartbeats 4000000
namespace SB
open PySem PySem.Spec PyProof.Rows L2
open TL (tl)
section
variable {P : Program} {w : World} {K : PySem.W.Frag} {mg : Str → Option Value} {base : Heap} {CX : CXT} {k : Nat} {f : Addr} {x qual : Str} {params : Arguments} {body : List Stmt} {scope : Scope} {fd : FuncData} {ps : List Str} {sp : Sp}
theorem fnR_of (F : FunD K x qual params body scope [] [] f fd) (b : Binds K fd ps []) (G : FnOk P w K mg base CX k f fd ps sp) : FnR P w K mg base CX k f sp :=
  (G.raw b .nil).imp fun vs H Q E h => by rw [List.append_nil]; exact h
end
theorem putF_eq {f : Str} {v u : V} {r : List (Str × V)} : putF f v ((f, u) :: r) = (f, v) :: r := by
  show (if f = f then _ else _) = _
  rw [if_pos rfl]
theorem putF_ne {f g : Str} {v u : V} {r : List (Str × V)} (h : ¬ g = f) : putF f v ((g, u) :: r) = (g, u) :: putF f v r := by
  show (if g = f then _ else _) = _
  rw [if_neg h]
theorem putF_nil {f : Str} {v : V} : putF f v [] = [(f, v)] := rfl
theorem look_eq {f : Str} {v : V} {r : List (Str × V)} : ((f, v) :: r).lookup f = some v := by simp [List.lookup]
theorem look_ne {f g : Str} {v : V} {r : List (Str × V)} (h : ¬ g = f) : ((g, v) :: r).lookup f = r.lookup f := by
  have e : (f == g) = false := by simpa using fun q => h q.symm
  simp [List.lookup, e]
example (a b : V) : putF ("line" : Str) a [(("kind" : Str), b)] = [(("kind" : Str), b), (("line" : Str), a)] := by rfl
example (a b : V) : ([(("kind" : Str), b), (("line" : Str), a)] : List (Str × V)).lookup ("line" : Str) = some a := by rfl
example (a b : V) : ([(("kind" : Str), b), (("line" : Str), a)] : List (Str × V)).lookup ("first" : Str) = none := by rfl
end SB

set_option maxHeartbeats 4000000
namespace SB
open PySem PySem.Spec PyProof.Rows L2
open TL (tl)
section
variable {X : Cx} {e : Expr} {es : List Expr} {ta : TA} {p1 p2 pos : Pos} {CB : Addr} {x : Str}
/-- B.__init__(self, ..), B an own class over ValueError without an __init__ of its own -/
theorem pe_binit {pl : Sem Bool} (hm : X.mg x = some (.ref CB)) (r : ClX.CRead X.K CB (.type "type")) (vV : PySem.W.findCls X.K (.ref CB) (.type "type") "__init__" = some (.val (.builtin "ValueError.__init__"))) (ha : PA X (e :: es) ta) (hg : Gl X x := by rfl)
    (hdb : (x == ("__debug__" : Str)) = false := by decide)
    (hc : eval (.Call (.Attribute (.Name x p1) "__init__" p2) (e :: es) [] pos) X.env = (do
      let ov ← eval (.Name x p1) X.env
      standAt p2.atName
      let (f, first) ← holding [ov] (getMethod ov "__init__" pl)
      callWith pos f first (backTo pos (starEach (e :: es) X.env)) (backToKw pos (keywordEach [] X.env))) := by rfl)
    (he : starEach (e :: es) X.env = (false, eval e X.env) :: starEach es X.env := by rfl) (hpl : (backTo pos (starEach es X.env)).any (·.1) = false := by rfl) :
    PE X (.Call (.Attribute (.Name x p1) "__init__" p2) (e :: es) [] pos) (tVeI X.K ta) := by
  refine ⟨fun pins s σ H Q I h => ?_⟩
  refine PySem.W.methodCall_KW (ld_glob I hg hm ?_ hdb) hc
  refine PySem.W.method_cls I.kIn r.ga (PySem.W.cls_value I.kIn r.rd vV (by decide +kernel) ?_)
  show wpAny _ _ (callWith pos (Value.builtin "ValueError.__init__") [] (backTo pos (starEach (e :: es) X.env)) []) _ _ _
  refine PyProof.Rows.callWith_method1 (thn (ha.run pos pins _ σ H _ (I.tok _) h) fun us s1 ⟨vs, H1, I1, r1, a, C, ws, ev, hl, T, ea, q⟩ => ?_) he hpl
  subst ev
  cases r1 with
  | @cons _ u0 _ ur ra rw' =>
    obtain rfl : u0 = Value.ref a := ra
    have hlen : ur.length ≤ sizeLine := by
      rw [← Paired.length rw', sizeLine_eq]
      omega
    exact oinit_ok T I1 ea hlen fun s' J => ⟨.non, H1, J, rfl, q⟩
end

/-! ### an own error class with an __init__ -/
def oexB (K : PySem.W.Frag) (C : Addr) : Bool := (match K.lookup C with
  | some ⟨.type "type", _, .cls cd, sl⟩ => (match cd.mro, sl.toList with
    | .ref C' :: bm, [_, _, _, _, some (.builtin n), _] => C' == C && n == "ValueError.__new__" && !cd.hasDel && cd.hasDict && PySem.HandSPX.refsVE bm
    | _, _ => false)
  | _ => false) && (He.eqO (PySem.W.findIn K (.ref C) "__setattr__") (some (some (.builtin "object.__setattr__"))) && (decide (PySem.W.subIn K (.ref C) (.type "BaseException") = some true) && (decide (PySem.W.typeIn K (.ref C) = some (.type "type")) && PySem.W.keepIn K (.ref C))))
theorem oexB_ok {K : PySem.W.Frag} {C : Addr} (h : oexB K C = true) : OexC K C := by
  obtain ⟨q, h⟩ := He.ba h
  obtain ⟨h1, h⟩ := He.ba h
  obtain ⟨h2, h⟩ := He.ba h
  obtain ⟨h3, h4⟩ := He.ba h
  refine ⟨?_, He.eqO_ok h1, of_decide_eq_true h2, of_decide_eq_true h3, h4⟩
  split at q
  · rename_i dd cd sl ho
    split at q
    · rename_i C' bm k0 k1 k2 k3 n k5 hm hs
      simp only [Bool.and_eq_true, beq_iff_eq, Bool.not_eq_true'] at q
      obtain ⟨⟨⟨⟨rfl, rfl⟩, hdel⟩, hdict⟩, ht⟩ := q
      obtain ⟨nm, bs, mro, ns, qn, hd, sn, sub, ab, col, del⟩ := cd
      dsimp only at hm hdel hdict
      subst hm hdel hdict
      have hsl : sl = #[k0, k1, k2, k3, some (.builtin "ValueError.__new__"), k5] := by
        obtain ⟨l⟩ := sl
        simp only at hs
        rw [hs]
      subst hsl
      exact ⟨nm, qn, ns, bs, bm, sn, sub, ab, col, dd, k0, k1, k2, k3, k5, ho, ht⟩
    · cases q
  · cases q
def binitB (K : PySem.W.Frag) (C : Addr) : Bool := PySem.W.readsIn K C (.type "type") && (He.eqO (PySem.W.specialIn K (.ref C) "__getattribute__") (some (some (.builtin "type.__getattribute__"))) && (match PySem.W.findCls K (.ref C) (.type "type") "__init__" with
  | some (.val v) => decide (v = .builtin "ValueError.__init__")
  | _ => false))
theorem binitB_ok {K : PySem.W.Frag} {C : Addr} (h : binitB K C = true) : ClX.CRead K C (.type "type") ∧ PySem.W.findCls K (.ref C) (.type "type") "__init__" = some (.val (.builtin "ValueError.__init__")) := by
  obtain ⟨h1, h⟩ := He.ba h
  obtain ⟨h2, h3⟩ := He.ba h
  refine ⟨⟨h1, He.eqO_ok h2⟩, ?_⟩
  split at h3
  · rename_i v e
    rw [e, of_decide_eq_true h3]
  · cases h3
/-- an error of the class at C leaves a def: its own dict is new and holds fs -/
def Fails (H : Hp) (E : XK) (C : Addr) (fs : List (Str × V)) : Prop := ∀ (d : Addr) (H' : Hp), Same H H' → H d = none → H' d = some (.xd fs) → E (.ref C) (some d) H'
theorem Fails.mono {H H' : Hp} {E : XK} {C : Addr} {fs : List (Str × V)} (h : Fails H E C fs) (e : Same H H') : Fails H' E C fs := fun d H2 e2 n x => h d H2 (e.trans e2) (e.free n) x
/-- the promise of such an __init__ -/
def spOInit (C : Addr) (g : List V → List (Str × V) → Prop) : Sp := fun vs H Q _ => ∃ a us fs, vs = .ref a :: us ∧ g us fs ∧ H a = some (exo a C none) ∧
  ∀ (d : Addr) (H' : Hp), H d = none → d ≠ a → H' a = some (exo a C (some d)) → H' d = some (exd d fs) → (∀ b o, H b = some o → b ≠ a → H' b = some o) → Q .non H'
def sfF (l c : Int) : List (Str × V) := [("column", .int c), ("line", .int l)]
def cfF (z : Str) (l c : Int) : List (Str × V) := [("column", .int c), ("line", .int l), ("reason", .str z)]
def smallI (i : Int) : Prop := 0 ≤ i ∧ i ≤ 1000000
def gSF (us : List V) (fs : List (Str × V)) : Prop := ∃ l c : Int, us = [.int l, .int c] ∧ fs = sfF l c ∧ smallI l ∧ smallI c
def gCF (us : List V) (fs : List (Str × V)) : Prop := ∃ (z : Str) (l c : Int), us = [.str z, .int l, .int c] ∧ fs = cfF z l c ∧ z.length ≤ 100 ∧ smallI l ∧ smallI c
theorem log_ok {i : Int} (h : smallI i) : i.natAbs.log2 < 1920 := by
  obtain ⟨h1, h2⟩ := h
  have e : i.natAbs < 2 ^ 20 := by omega
  by_cases z : i.natAbs = 0
  · rw [z]; decide
  · have := (Nat.log2_lt z (k := 20)).mpr e
    omega
theorem txt_ok {i : Int} (h : smallI i) : (Str.ofString (toString i)).length ≤ 7 := by
  obtain ⟨h1, h2⟩ := h
  exact toString_length_le h1 (by decide) (by omega)
theorem app_len (a b : Str) : (a ++ b).length = a.length + b.length := by
  show (a.cps ++ b.cps).size = _
  rw [Array.size_append]
  rfl
theorem oinit_fails {C : Addr} {g : List V → List (Str × V) → Prop} {us : List V} {fs : List (Str × V)} {H1 : Hp} {E : XK} {W : WX} {σ : L2.St} (h : g us fs) (hl : us.length ≤ 1000) (k : Fails H1 E C fs) (hW : ∀ cls d H, E cls d H → W cls d σ H) :
    us.length ≤ 1000 ∧ ∀ a, H1 a = none → spOInit C g (.ref a :: (us ++ [])) (upd H1 a (exo a C none))
      (fun v H2 => v = .non ∧ ∃ (d : Addr) (fs : List (Str × V)), H2 a = some (exo a C (some d)) ∧ H2 d = some (exd d fs) ∧ H1 d = none ∧ W (.ref C) (some d) σ (upd (del H2 a) d (.xd fs))) (fun _ _ _ => False) := by
  refine ⟨hl, fun a na => ⟨a, us, fs, by rw [List.append_nil], h, upd_same, fun d H' nd ne ha hd kp => ⟨rfl, d, fs, ha, hd, ?_, hW _ _ _ (k d _ (fun b o e => ?_) ?_ upd_same)⟩⟩⟩
  · rw [upd_ne ne] at nd
    exact nd
  · have nb : b ≠ a := ne_of_none e na
    rw [upd_ne ne] at nd
    rw [upd_ne (ne_of_none e nd), del_ne nb]
    exact kp b o (by rw [upd_ne nb]; exact e) nb
  · rw [upd_ne ne] at nd
    exact nd
end SB

set_option maxHeartbeats 4000000
namespace SB
open PySem PySem.Spec PyProof.Rows L2
/-- what some addresses reach in n steps -/
def reach (g : Addr → Option Obj) (from_ : List Addr) : Nat → List Addr
  | 0 => from_
  | n + 1 => He.growD g (reach g from_ n)
def seeS (n : Nat) (st : List Addr) (fa : List He.Fa) (fn : List He.DefD) (tf : List He.Defn) (ex : PySem.W.Frag → Bool) (g : Addr → Option Obj) : He.AlX :=
  (He.obsT fa fn [] (He.frT g (reach g st n)), ex (He.frT g (reach g st n)) && He.tabsB g tf (He.frT g (reach g st n)))
theorem says_any {fa : List He.Fa} {fn : List He.DefD} {tf : List He.Defn} {ex : PySem.W.Frag → Bool} {w : World} {h : Heap} {as : List Addr}
    (e1 : He.obsT fa fn [] (He.frT h.get? as) = He.valT fn [] w) (e2 : ex (He.frT h.get? as) = true) (e3 : He.tabsB h.get? tf (He.frT h.get? as) = true) : He.SaysX fa fn [] tf ex w h (He.frT h.get? as) := by
  have at_ := List.all_eq_true.mp (show (tf.all _) = true from e3)
  have tab : ∀ p ∈ tf, ∃ o, h.get? (He.cT (He.frT h.get? as) p).2 = some o ∧ He.emptyTab o = true := by
    intro p hp
    have b := (He.ba (at_ p hp)).2
    revert b
    cases q : h.get? (He.cT (He.frT h.get? as) p).2 with
    | none => intro b; cases b
    | some o => intro b; exact ⟨o, rfl, b⟩
  constructor
  · exact e1
  · exact e2
  · exact fun p hp => (He.ba (at_ p hp)).1
  · intro p hp
    obtain ⟨o, q, z⟩ := tab p hp
    exact He.frT_none q z
  · intro p hp
    obtain ⟨o, q, z⟩ := tab p hp
    rw [q, He.emptyTab_eq z]
def hookS (n : Nat) (st : List Addr) (fa : List He.Fa) (fn : List He.DefD) (tf : List He.Defn) (ex : PySem.W.Frag → Bool) : PySem.W.Hook where
  α := He.AlX
  obs := fun s => seeS n st fa fn tf ex s.heap.get?
  val := fun w => He.valX fn [] w
  says := fun w h => ∃ K : PySem.W.Frag, K.In h ∧ He.SaysX fa fn [] tf ex w h K
  of := fun _ _ e => by
    have a := congrArg Prod.fst e
    have b := He.ba (congrArg Prod.snd e)
    exact ⟨_, He.frT_in, says_any a b.1 b.2⟩
  keeps := by
    rintro w h h' ⟨K, hK, c⟩ k
    exact ⟨K, PySem.W.Frag.In.keeps hK k, c.t, c.more, c.hd, c.out, fun p hp => k _ _ (c.empty p hp)⟩
theorem seeS_eq {n : Nat} {st : List Addr} {fa : List He.Fa} {fn : List He.DefD} {tf : List He.Defn} {ex : PySem.W.Frag → Bool} {g : Addr → Option Obj} {s : Shared} (h : ∀ a, g a = s.heap.get? a) : seeS n st fa fn tf ex g = (hookS n st fa fn tf ex).obs s := by
  obtain rfl : g = s.heap.get? := funext h
  rfl
end SB

set_option maxHeartbeats 4000000
/-! the head by facts: what is looked at stands at written addresses, and the run is told in parts -/
namespace SB
open PySem PySem.Spec PyProof.Rows L2 PySem.W HandSHeadRun
def seeA (as : List Addr) (fa : List He.Fa) (fn : List He.DefD) (ex : PySem.W.Frag → Bool) (g : Addr → Option Obj) : He.AlX :=
  (He.obsT fa fn [] (He.frT g as), ex (He.frT g as) && He.tabsB g [] (He.frT g as))
def hookA (as : List Addr) (fa : List He.Fa) (fn : List He.DefD) (ex : PySem.W.Frag → Bool) : PySem.W.Hook where
  α := He.AlX
  obs := fun s => seeA as fa fn ex s.heap.get?
  val := fun w => He.valX fn [] w
  says := fun w h => ∃ K : PySem.W.Frag, K.In h ∧ He.SaysX fa fn [] [] ex w h K
  of := fun _ _ e => by
    have a := congrArg Prod.fst e
    have b := He.ba (congrArg Prod.snd e)
    exact ⟨_, He.frT_in, says_any a b.1 b.2⟩
  keeps := by
    rintro w h h' ⟨K, hK, c⟩ k
    exact ⟨K, PySem.W.Frag.In.keeps hK k, c.t, c.more, c.hd, c.out, fun p hp => k _ _ (c.empty p hp)⟩
theorem seeA_eq {as : List Addr} {fa : List He.Fa} {fn : List He.DefD} {ex : PySem.W.Frag → Bool} {g : Addr → Option Obj} {s : Shared} (h : ∀ a, g a = s.heap.get? a) : seeA as fa fn ex g = (hookA as fa fn ex).obs s := by
  obtain rfl : g = s.heap.get? := funext h
  rfl
section
variable {r : OpenRow} {q : Program} {as : List Addr} {fa : List He.Fa} {fn f1 f2 : List He.DefD} {ex : PySem.W.Frag → Bool} {M : Nat} {loose : List Str} {w : World}
/-- the state behind the top -/
noncomputable abbrev endR (r : OpenRow) (M : Nat) (w : World) (os : OsState) : Option SharedT := endF (stepQ (denQ tabQ) r.prog w) M r.prog w os
theorem run_parts (hA : ∀ os, (endR r M w os).map (fun s => (looksF r.prog (boot_heap w.params) s.abs, seenQ q loose (importedModules r.prog.main.body) (fun s => xlAt q [] s && recOk r.toRowW.records s) s.abs)) = some (true, openGood q loose))
    (hB : ∀ os, (endR r M w os).map (fun s => (fa.all fun f => f.ok (He.frT (getT s) as)) && ex (He.frT (getT s) as)) = some true)
    (h1 : ∀ os, (endR r M w os).map (fun s => (f1.all fun d => d.ok (He.frT (getT s) as), f1.map fun d => He.fnW (He.frT (getT s) as) d.at_)) = some (true, f1.map He.DefD.val))
    (h2 : ∀ os, (endR r M w os).map (fun s => (f2.all fun d => d.ok (He.frT (getT s) as), f2.map fun d => He.fnW (He.frT (getT s) as) d.at_)) = some (true, f2.map He.DefD.val)) (hf : fn = f1 ++ f2) :
    RunEq r q (hookA as fa fn ex) (fun s => seeA as fa fn ex (getT s)) M loose w := by
  subst hf
  intro os
  have a := hA os
  have b := hB os
  have c1 := h1 os
  have c2 := h2 os
  show (endR r M w os).map _ = _
  cases e : endR r M w os with
  | none =>
    rw [e] at b
    cases b
  | some s =>
    rw [e] at a b c1 c2
    have a := Prod.mk.inj (Option.some.inj a)
    have b := He.ba (Option.some.inj b)
    have c1 := Prod.mk.inj (Option.some.inj c1)
    have c2 := Prod.mk.inj (Option.some.inj c2)
    show some (_, _, seeA as fa (f1 ++ f2) ex (getT s)) = some (true, openGood q loose, He.valX (f1 ++ f2) [] w)
    rw [a.1, a.2]
    have z : seeA as fa (f1 ++ f2) ex (getT s) = He.valX (f1 ++ f2) [] w := by
      show (((((fa.all fun f => f.ok (He.frT (getT s) as)) && (f1 ++ f2).all fun d => d.ok (He.frT (getT s) as)), (f1 ++ f2).map fun d => He.fnW (He.frT (getT s) as) d.at_), ([] : List (Option (List (Option (Str × Int)))))), ex (He.frT (getT s) as) && He.tabsB (getT s) [] (He.frT (getT s) as)) = (((true, (f1 ++ f2).map He.DefD.val), []), true)
      rw [List.all_append, List.map_append, List.map_append, b.1, b.2, c1.1, c1.2, c2.1, c2.2]
      rfl
    rw [z]
end
end SB

set_option maxHeartbeats 4000000
namespace SB
open PySem PySem.Spec PyProof.Rows L2
def top (i : Nat) : Stmt := PySem.Challenge.pw_shelfbots_k08_free_starts_of_plans.main.body.getD i (.Pass ⟨0, 0, 0, 0⟩)
abbrev s__wall : Stmt := top 0
abbrev s_SyntaxFault_init : Stmt := inClass (top 3) 0
abbrev s_CheckFault_init : Stmt := inClass (top 4) 0
abbrev s_Token_init : Stmt := inClass (top 20) 0
abbrev s_read_tokens : Stmt := top 21
abbrev s_read_row : Stmt := top 22
abbrev s_longest_text : Stmt := top 23
abbrev s_kind_of : Stmt := top 24
abbrev s_is_valid_number : Stmt := top 25
abbrev s_PlanTokens_init : Stmt := inClass (top 27) 0
abbrev s_RobotTokens_init : Stmt := inClass (top 28) 0
abbrev s_StepTokens_init : Stmt := inClass (top 29) 0
abbrev s_StepTokens_first : Stmt := inClass (top 29) 1
abbrev s_Parser_init : Stmt := inClass (top 30) 0
abbrev s_Parser_next_kind : Stmt := inClass (top 30) 1
abbrev s_Parser_take : Stmt := inClass (top 30) 2
abbrev s_Parser_take_plan : Stmt := inClass (top 30) 3
abbrev s_Parser_take_robot : Stmt := inClass (top 30) 4
abbrev s_Parser_take_step : Stmt := inClass (top 30) 5
abbrev s_parse_plan : Stmt := top 31
abbrev s_Plan_init : Stmt := inClass (top 38) 0
abbrev s_read_plan : Stmt := top 39
abbrev s_linked_plan : Stmt := top 40
abbrev s_plans_with_all_starts : Stmt := top 41
abbrev s_linked_steps : Stmt := top 42
abbrev s_first_labels : Stmt := top 43
abbrev s_check_plan : Stmt := top 44
abbrev s_fault_at : Stmt := top 45
abbrev s_shelf_faults : Stmt := top 46
abbrev s_start_faults : Stmt := top 47
abbrev s_step_faults : Stmt := top 48
abbrev s_beginning : Stmt := top 51
abbrev s_Situation_init : Stmt := inClass (top 52) 0
abbrev s_Situation_frozen : Stmt := inClass (top 52) 1
abbrev s_Situation_pass_tick : Stmt := inClass (top 52) 2
abbrev s_Situation_do_step : Stmt := inClass (top 52) 3
abbrev s_Situation_try_step : Stmt := inClass (top 52) 4
abbrev s_Situation_try_move : Stmt := inClass (top 52) 5
abbrev s_Situation_try_pick : Stmt := inClass (top 52) 6
abbrev s_Situation_try_put : Stmt := inClass (top 52) 7
abbrev s_Situation_is_jumping : Stmt := inClass (top 52) 8
abbrev s_Run_init : Stmt := inClass (top 54) 0
abbrev s_Run_kept_tick : Stmt := inClass (top 54) 1
abbrev s_Run_situation_before : Stmt := inClass (top 54) 2
abbrev s_Run_words_in : Stmt := inClass (top 54) 3
abbrev s_Run_is_stuck : Stmt := inClass (top 54) 4
abbrev s_free_starts : Stmt := top 56
abbrev s_is_free : Stmt := top 57
abbrev s__law_random : Stmt := top 59
abbrev s__law_below : Stmt := top 60
abbrev s__law_steps : Stmt := top 61
abbrev s__law_repeats : Stmt := top 62
abbrev s__law_plan : Stmt := top 63
abbrev s__law_stuck : Stmt := top 64
abbrev s__law_empty : Stmt := top 65
abbrev s__law_act : Stmt := top 66
abbrev s__law_tick : Stmt := top 67
abbrev s__law_cycle : Stmt := top 68
abbrev s__law_text : Stmt := top 69
abbrev s__law_equal : Stmt := top 70
abbrev s_law : Stmt := top 71
abbrev N__wall : List Str := ["k"]
abbrev P__wall : List Str := ["k"]
theorem sc__wall : FnScope N__wall P__wall (defScope s__wall) := ⟨rfl, rfl, rfl, by decide +kernel, rfl, by decide +kernel, by decide +kernel⟩
abbrev N_SyntaxFault_init : List Str := ["self", "line", "column"]
abbrev P_SyntaxFault_init : List Str := ["self", "line", "column"]
theorem sc_SyntaxFault_init : FnScope N_SyntaxFault_init P_SyntaxFault_init (defScope s_SyntaxFault_init) := ⟨rfl, rfl, rfl, by decide +kernel, rfl, by decide +kernel, by decide +kernel⟩
abbrev N_CheckFault_init : List Str := ["self", "reason", "line", "column"]
abbrev P_CheckFault_init : List Str := ["self", "reason", "line", "column"]
theorem sc_CheckFault_init : FnScope N_CheckFault_init P_CheckFault_init (defScope s_CheckFault_init) := ⟨rfl, rfl, rfl, by decide +kernel, rfl, by decide +kernel, by decide +kernel⟩
abbrev N_Token_init : List Str := ["self", "kind", "text", "line", "column"]
abbrev P_Token_init : List Str := ["self", "kind", "text", "line", "column"]
theorem sc_Token_init : FnScope N_Token_init P_Token_init (defScope s_Token_init) := ⟨rfl, rfl, rfl, by decide +kernel, rfl, by decide +kernel, by decide +kernel⟩
abbrev N_read_tokens : List Str := ["text", "tokens", "rows", "line", "row"]
abbrev P_read_tokens : List Str := ["text"]
theorem sc_read_tokens : FnScope N_read_tokens P_read_tokens (defScope s_read_tokens) := ⟨rfl, rfl, rfl, by decide +kernel, rfl, by decide +kernel, by decide +kernel⟩
abbrev N_read_row : List Str := ["row", "line", "tokens", "column", "text"]
abbrev P_read_row : List Str := ["row", "line"]
theorem sc_read_row : FnScope N_read_row P_read_row (defScope s_read_row) := ⟨rfl, rfl, rfl, by decide +kernel, rfl, by decide +kernel, by decide +kernel⟩
abbrev N_longest_text : List Str := ["row", "column", "characters", "end"]
abbrev P_longest_text : List Str := ["row", "column"]
theorem sc_longest_text : FnScope N_longest_text P_longest_text (defScope s_longest_text) := ⟨rfl, rfl, rfl, by decide +kernel, rfl, by decide +kernel, by decide +kernel⟩
abbrev N_kind_of : List Str := ["text", "line", "column"]
abbrev P_kind_of : List Str := ["text", "line", "column"]
theorem sc_kind_of : FnScope N_kind_of P_kind_of (defScope s_kind_of) := ⟨rfl, rfl, rfl, by decide +kernel, rfl, by decide +kernel, by decide +kernel⟩
abbrev N_is_valid_number : List Str := ["digits"]
abbrev P_is_valid_number : List Str := ["digits"]
theorem sc_is_valid_number : FnScope N_is_valid_number P_is_valid_number (defScope s_is_valid_number) := ⟨rfl, rfl, rfl, by decide +kernel, rfl, by decide +kernel, by decide +kernel⟩
abbrev N_PlanTokens_init : List Str := ["self", "keyword", "numbers", "robots"]
abbrev P_PlanTokens_init : List Str := ["self", "keyword", "numbers", "robots"]
theorem sc_PlanTokens_init : FnScope N_PlanTokens_init P_PlanTokens_init (defScope s_PlanTokens_init) := ⟨rfl, rfl, rfl, by decide +kernel, rfl, by decide +kernel, by decide +kernel⟩
abbrev N_RobotTokens_init : List Str := ["self", "start", "steps"]
abbrev P_RobotTokens_init : List Str := ["self", "start", "steps"]
theorem sc_RobotTokens_init : FnScope N_RobotTokens_init P_RobotTokens_init (defScope s_RobotTokens_init) := ⟨rfl, rfl, rfl, by decide +kernel, rfl, by decide +kernel, by decide +kernel⟩
abbrev N_StepTokens_init : List Str := ["self", "label", "command", "target"]
abbrev P_StepTokens_init : List Str := ["self", "label", "command", "target"]
theorem sc_StepTokens_init : FnScope N_StepTokens_init P_StepTokens_init (defScope s_StepTokens_init) := ⟨rfl, rfl, rfl, by decide +kernel, rfl, by decide +kernel, by decide +kernel⟩
abbrev N_StepTokens_first : List Str := ["self"]
abbrev P_StepTokens_first : List Str := ["self"]
theorem sc_StepTokens_first : FnScope N_StepTokens_first P_StepTokens_first (defScope s_StepTokens_first) := ⟨rfl, rfl, rfl, by decide +kernel, rfl, by decide +kernel, by decide +kernel⟩
abbrev N_Parser_init : List Str := ["self", "tokens"]
abbrev P_Parser_init : List Str := ["self", "tokens"]
theorem sc_Parser_init : FnScope N_Parser_init P_Parser_init (defScope s_Parser_init) := ⟨rfl, rfl, rfl, by decide +kernel, rfl, by decide +kernel, by decide +kernel⟩
abbrev N_Parser_next_kind : List Str := ["self"]
abbrev P_Parser_next_kind : List Str := ["self"]
theorem sc_Parser_next_kind : FnScope N_Parser_next_kind P_Parser_next_kind (defScope s_Parser_next_kind) := ⟨rfl, rfl, rfl, by decide +kernel, rfl, by decide +kernel, by decide +kernel⟩
abbrev N_Parser_take : List Str := ["self", "kinds", "token"]
abbrev P_Parser_take : List Str := ["self", "kinds"]
theorem sc_Parser_take : FnScope N_Parser_take P_Parser_take (defScope s_Parser_take) := ⟨rfl, rfl, rfl, by decide +kernel, rfl, by decide +kernel, by decide +kernel⟩
abbrev N_Parser_take_plan : List Str := ["self", "keyword", "numbers", "robots"]
abbrev P_Parser_take_plan : List Str := ["self"]
theorem sc_Parser_take_plan : FnScope N_Parser_take_plan P_Parser_take_plan (defScope s_Parser_take_plan) := ⟨rfl, rfl, rfl, by decide +kernel, rfl, by decide +kernel, by decide +kernel⟩
abbrev N_Parser_take_robot : List Str := ["self", "start", "steps"]
abbrev P_Parser_take_robot : List Str := ["self"]
theorem sc_Parser_take_robot : FnScope N_Parser_take_robot P_Parser_take_robot (defScope s_Parser_take_robot) := ⟨rfl, rfl, rfl, by decide +kernel, rfl, by decide +kernel, by decide +kernel⟩
abbrev N_Parser_take_step : List Str := ["self", "label", "command", "target"]
abbrev P_Parser_take_step : List Str := ["self"]
theorem sc_Parser_take_step : FnScope N_Parser_take_step P_Parser_take_step (defScope s_Parser_take_step) := ⟨rfl, rfl, rfl, by decide +kernel, rfl, by decide +kernel, by decide +kernel⟩
abbrev N_parse_plan : List Str := ["text"]
abbrev P_parse_plan : List Str := ["text"]
theorem sc_parse_plan : FnScope N_parse_plan P_parse_plan (defScope s_parse_plan) := ⟨rfl, rfl, rfl, by decide +kernel, rfl, by decide +kernel, by decide +kernel⟩
abbrev N_Plan_init : List Str := ["self", "boxes", "first_cells", "steps"]
abbrev P_Plan_init : List Str := ["self", "boxes", "first_cells", "steps"]
theorem sc_Plan_init : FnScope N_Plan_init P_Plan_init (defScope s_Plan_init) := ⟨rfl, rfl, rfl, by decide +kernel, rfl, by decide +kernel, by decide +kernel⟩
abbrev N_read_plan : List Str := ["text", "tokens"]
abbrev P_read_plan : List Str := ["text"]
theorem sc_read_plan : FnScope N_read_plan P_read_plan (defScope s_read_plan) := ⟨rfl, rfl, rfl, by decide +kernel, rfl, by decide +kernel, by decide +kernel⟩
abbrev N_linked_plan : List Str := ["tokens", "boxes", "first_cells", "steps", "number", "robot"]
abbrev P_linked_plan : List Str := ["tokens"]
theorem sc_linked_plan : FnScope N_linked_plan P_linked_plan (defScope s_linked_plan) := ⟨rfl, rfl, rfl, by decide +kernel, rfl, by decide +kernel, by decide +kernel⟩
abbrev N_plans_with_all_starts : List Str := ["plan", "numbers", "starts", "first", "second", "start"]
abbrev P_plans_with_all_starts : List Str := ["plan"]
theorem sc_plans_with_all_starts : FnScope N_plans_with_all_starts P_plans_with_all_starts (defScope s_plans_with_all_starts) := ⟨rfl, rfl, rfl, by decide +kernel, rfl, by decide +kernel, by decide +kernel⟩
abbrev N_linked_steps : List Str := ["steps", "labels", "linked", "step", "target"]
abbrev P_linked_steps : List Str := ["steps"]
theorem sc_linked_steps : FnScope N_linked_steps P_linked_steps (defScope s_linked_steps) := ⟨rfl, rfl, rfl, by decide +kernel, rfl, by decide +kernel, by decide +kernel⟩
abbrev N_first_labels : List Str := ["steps", "labels", "number", "step"]
abbrev P_first_labels : List Str := ["steps"]
theorem sc_first_labels : FnScope N_first_labels P_first_labels (defScope s_first_labels) := ⟨rfl, rfl, rfl, by decide +kernel, rfl, by decide +kernel, by decide +kernel⟩
abbrev N_check_plan : List Str := ["tokens", "faults", "robot", "line", "column", "rank"]
abbrev P_check_plan : List Str := ["tokens"]
theorem sc_check_plan : FnScope N_check_plan P_check_plan (defScope s_check_plan) := ⟨rfl, rfl, rfl, by decide +kernel, rfl, by decide +kernel, by decide +kernel⟩
abbrev N_fault_at : List Str := ["reason", "token"]
abbrev P_fault_at : List Str := ["reason", "token"]
theorem sc_fault_at : FnScope N_fault_at P_fault_at (defScope s_fault_at) := ⟨rfl, rfl, rfl, by decide +kernel, rfl, by decide +kernel, by decide +kernel⟩
abbrev N_shelf_faults : List Str := ["tokens", "faults", "number"]
abbrev P_shelf_faults : List Str := ["tokens"]
theorem sc_shelf_faults : FnScope N_shelf_faults P_shelf_faults (defScope s_shelf_faults) := ⟨rfl, rfl, rfl, by decide +kernel, rfl, by decide +kernel, by decide +kernel⟩
abbrev N_start_faults : List Str := ["tokens", "faults", "first", "second", "start", "robot"]
abbrev P_start_faults : List Str := ["tokens"]
theorem sc_start_faults : FnScope N_start_faults P_start_faults (defScope s_start_faults) := ⟨rfl, rfl, rfl, by decide +kernel, rfl, by decide +kernel, by decide +kernel⟩
abbrev N_step_faults : List Str := ["steps", "faults", "labels", "number", "step"]
abbrev P_step_faults : List Str := ["steps"]
theorem sc_step_faults : FnScope N_step_faults P_step_faults (defScope s_step_faults) := ⟨rfl, rfl, rfl, by decide +kernel, rfl, by decide +kernel, by decide +kernel⟩
abbrev N_beginning : List Str := ["plan"]
abbrev P_beginning : List Str := ["plan"]
theorem sc_beginning : FnScope N_beginning P_beginning (defScope s_beginning) := ⟨rfl, rfl, rfl, by decide +kernel, rfl, by decide +kernel, by decide +kernel⟩
abbrev N_Situation_init : List Str := ["self", "steps", "frozen", "robot_cells", "loaded", "next_steps", "boxes"]
abbrev P_Situation_init : List Str := ["self", "steps", "frozen"]
theorem sc_Situation_init : FnScope N_Situation_init P_Situation_init (defScope s_Situation_init) := ⟨rfl, rfl, rfl, by decide +kernel, rfl, by decide +kernel, by decide +kernel⟩
abbrev N_Situation_frozen : List Str := ["self"]
abbrev P_Situation_frozen : List Str := ["self"]
theorem sc_Situation_frozen : FnScope N_Situation_frozen P_Situation_frozen (defScope s_Situation_frozen) := ⟨rfl, rfl, rfl, by decide +kernel, rfl, by decide +kernel, by decide +kernel⟩
abbrev N_Situation_pass_tick : List Str := ["self", "word"]
abbrev P_Situation_pass_tick : List Str := ["self"]
theorem sc_Situation_pass_tick : FnScope N_Situation_pass_tick P_Situation_pass_tick (defScope s_Situation_pass_tick) := ⟨rfl, rfl, rfl, by decide +kernel, rfl, by decide +kernel, by decide +kernel⟩
abbrev N_Situation_do_step : List Str := ["self", "robot", "steps", "number", "word", "target"]
abbrev P_Situation_do_step : List Str := ["self", "robot"]
theorem sc_Situation_do_step : FnScope N_Situation_do_step P_Situation_do_step (defScope s_Situation_do_step) := ⟨rfl, rfl, rfl, by decide +kernel, rfl, by decide +kernel, by decide +kernel⟩
abbrev N_Situation_try_step : List Str := ["self", "robot", "word"]
abbrev P_Situation_try_step : List Str := ["self", "robot", "word"]
theorem sc_Situation_try_step : FnScope N_Situation_try_step P_Situation_try_step (defScope s_Situation_try_step) := ⟨rfl, rfl, rfl, by decide +kernel, rfl, by decide +kernel, by decide +kernel⟩
abbrev N_Situation_try_move : List Str := ["self", "robot", "way", "cell"]
abbrev P_Situation_try_move : List Str := ["self", "robot", "way"]
theorem sc_Situation_try_move : FnScope N_Situation_try_move P_Situation_try_move (defScope s_Situation_try_move) := ⟨rfl, rfl, rfl, by decide +kernel, rfl, by decide +kernel, by decide +kernel⟩
abbrev N_Situation_try_pick : List Str := ["self", "robot", "cell"]
abbrev P_Situation_try_pick : List Str := ["self", "robot"]
theorem sc_Situation_try_pick : FnScope N_Situation_try_pick P_Situation_try_pick (defScope s_Situation_try_pick) := ⟨rfl, rfl, rfl, by decide +kernel, rfl, by decide +kernel, by decide +kernel⟩
abbrev N_Situation_try_put : List Str := ["self", "robot", "cell"]
abbrev P_Situation_try_put : List Str := ["self", "robot"]
theorem sc_Situation_try_put : FnScope N_Situation_try_put P_Situation_try_put (defScope s_Situation_try_put) := ⟨rfl, rfl, rfl, by decide +kernel, rfl, by decide +kernel, by decide +kernel⟩
abbrev N_Situation_is_jumping : List Str := ["self", "robot", "word"]
abbrev P_Situation_is_jumping : List Str := ["self", "robot", "word"]
theorem sc_Situation_is_jumping : FnScope N_Situation_is_jumping P_Situation_is_jumping (defScope s_Situation_is_jumping) := ⟨rfl, rfl, rfl, by decide +kernel, rfl, by decide +kernel, by decide +kernel⟩
abbrev N_Run_init : List Str := ["self", "plan", "before", "situation", "ticks", "words"]
abbrev P_Run_init : List Str := ["self", "plan"]
theorem sc_Run_init : FnScope N_Run_init P_Run_init (defScope s_Run_init) := ⟨rfl, rfl, rfl, by decide +kernel, rfl, by decide +kernel, by decide +kernel⟩
abbrev N_Run_kept_tick : List Str := ["self", "tick"]
abbrev P_Run_kept_tick : List Str := ["self", "tick"]
theorem sc_Run_kept_tick : FnScope N_Run_kept_tick P_Run_kept_tick (defScope s_Run_kept_tick) := ⟨rfl, rfl, rfl, by decide +kernel, rfl, by decide +kernel, by decide +kernel⟩
abbrev N_Run_situation_before : List Str := ["self", "tick"]
abbrev P_Run_situation_before : List Str := ["self", "tick"]
theorem sc_Run_situation_before : FnScope N_Run_situation_before P_Run_situation_before (defScope s_Run_situation_before) := ⟨rfl, rfl, rfl, by decide +kernel, rfl, by decide +kernel, by decide +kernel⟩
abbrev N_Run_words_in : List Str := ["self", "tick"]
abbrev P_Run_words_in : List Str := ["self", "tick"]
theorem sc_Run_words_in : FnScope N_Run_words_in P_Run_words_in (defScope s_Run_words_in) := ⟨rfl, rfl, rfl, by decide +kernel, rfl, by decide +kernel, by decide +kernel⟩
abbrev N_Run_is_stuck : List Str := ["self", "robot", "words"]
abbrev P_Run_is_stuck : List Str := ["self", "robot"]
theorem sc_Run_is_stuck : FnScope N_Run_is_stuck P_Run_is_stuck (defScope s_Run_is_stuck) := ⟨rfl, rfl, rfl, by decide +kernel, rfl, by decide +kernel, by decide +kernel⟩
abbrev N_free_starts : List Str := ["plan", "plans", "other"]
abbrev P_free_starts : List Str := ["plan"]
theorem sc_free_starts : FnScope N_free_starts P_free_starts (defScope s_free_starts) := ⟨rfl, rfl, rfl, by decide +kernel, rfl, by decide +kernel, by decide +kernel⟩
abbrev N_is_free : List Str := ["plan", "run", "robot"]
abbrev P_is_free : List Str := ["plan"]
theorem sc_is_free : FnScope N_is_free P_is_free (defScope s_is_free) := ⟨rfl, rfl, rfl, by decide +kernel, rfl, by decide +kernel, by decide +kernel⟩
abbrev N__law_random : List Str := ["_law_script", "_law_salt", "_law_seed", "_law_cell"]
abbrev P__law_random : List Str := ["_law_script", "_law_salt"]
theorem sc__law_random : FnScope N__law_random P__law_random (defScope s__law_random) := ⟨rfl, rfl, rfl, by decide +kernel, rfl, by decide +kernel, by decide +kernel⟩
abbrev N__law_below : List Str := ["_law_d", "_law_limit", "_law_result"]
abbrev P__law_below : List Str := ["_law_d", "_law_limit"]
theorem sc__law_below : FnScope N__law_below P__law_below (defScope s__law_below) := ⟨rfl, rfl, rfl, by decide +kernel, rfl, by decide +kernel, by decide +kernel⟩
abbrev N__law_steps : List Str := ["_law_d", "_law_most", "_law_many", "_law_words", "_law_ways", "_law_limit", "_law_found", "_law_k", "_law_word"]
abbrev P__law_steps : List Str := ["_law_d", "_law_most"]
theorem sc__law_steps : FnScope N__law_steps P__law_steps (defScope s__law_steps) := ⟨rfl, rfl, rfl, by decide +kernel, rfl, by decide +kernel, by decide +kernel⟩
abbrev N__law_repeats : List Str := ["_law_plan_here", "_law_state", "_law_keys", "_law_tick_here", "_law_key", "_law_part"]
abbrev P__law_repeats : List Str := ["_law_plan_here"]
theorem sc__law_repeats : FnScope N__law_repeats P__law_repeats (defScope s__law_repeats) := ⟨rfl, rfl, rfl, by decide +kernel, rfl, by decide +kernel, by decide +kernel⟩
abbrev N__law_plan : List Str := ["_law_d", "_law_most", "_law_many_cells", "_law_first", "_law_second", "_law_shelf", "_law_plan_here", "_law_k"]
abbrev P__law_plan : List Str := ["_law_d", "_law_most"]
theorem sc__law_plan : FnScope N__law_plan P__law_plan (defScope s__law_plan) := ⟨rfl, rfl, rfl, by decide +kernel, rfl, by decide +kernel, by decide +kernel⟩
abbrev N__law_stuck : List Str := ["_law_cycle_here", "_law_late", "_law_number", "_law_one"]
abbrev P__law_stuck : List Str := ["_law_cycle_here"]
theorem sc__law_stuck : FnScope N__law_stuck P__law_stuck (defScope s__law_stuck) := ⟨rfl, rfl, rfl, by decide +kernel, rfl, by decide +kernel, by decide +kernel⟩
abbrev N__law_empty : List Str := ["_law_plan_here"]
abbrev P__law_empty : List Str := ["_law_plan_here"]
theorem sc__law_empty : FnScope N__law_empty P__law_empty (defScope s__law_empty) := ⟨rfl, rfl, rfl, by decide +kernel, rfl, by decide +kernel, by decide +kernel⟩
abbrev N__law_act : List Str := ["_law_plan_here", "_law_state", "_law_number", "_law_places", "_law_nexts", "_law_holds", "_law_shelf", "_law_word", "_law_goal", "_law_here", "_law_there", "_law_jumps", "_law_part"]
abbrev P__law_act : List Str := ["_law_plan_here", "_law_state", "_law_number"]
theorem sc__law_act : FnScope N__law_act P__law_act (defScope s__law_act) := ⟨rfl, rfl, rfl, by decide +kernel, rfl, by decide +kernel, by decide +kernel⟩
abbrev N__law_tick : List Str := ["_law_plan_here", "_law_state", "_law_first", "_law_second"]
abbrev P__law_tick : List Str := ["_law_plan_here", "_law_state"]
theorem sc__law_tick : FnScope N__law_tick P__law_tick (defScope s__law_tick) := ⟨rfl, rfl, rfl, by decide +kernel, rfl, by decide +kernel, by decide +kernel⟩
abbrev N__law_cycle : List Str := ["_law_plan_here", "_law_state", "_law_found", "_law_keys", "_law_key", "_law_part"]
abbrev P__law_cycle : List Str := ["_law_plan_here"]
theorem sc__law_cycle : FnScope N__law_cycle P__law_cycle (defScope s__law_cycle) := ⟨rfl, rfl, rfl, by decide +kernel, rfl, by decide +kernel, by decide +kernel⟩
abbrev N__law_text : List Str := ["_law_plan_here", "_law_shelf", "_law_starts", "_law_both", "_law_lines", "_law_number", "_law_goals", "_law_k", "_law_word", "_law_goal", "_law_mark", "_law_target", "_law_pieces"]
abbrev P__law_text : List Str := ["_law_plan_here"]
theorem sc__law_text : FnScope N__law_text P__law_text (defScope s__law_text) := ⟨rfl, rfl, rfl, by decide +kernel, rfl, by decide +kernel, by decide +kernel⟩
abbrev N__law_equal : List Str := ["_law_actual", "_law_expected", "_law_k"]
abbrev P__law_equal : List Str := ["_law_actual", "_law_expected"]
theorem sc__law_equal : FnScope N__law_equal P__law_equal (defScope s__law_equal) := ⟨rfl, rfl, rfl, by decide +kernel, rfl, by decide +kernel, by decide +kernel⟩
abbrev N_law : List Str := ["_law_script", "_law_d", "_law_step", "_law_shelf", "_law_starts", "_law_both", "_law_expected", "_law_first", "_law_second", "_law_found"]
abbrev P_law : List Str := ["_law_script"]
theorem sc_law : FnScope N_law P_law (defScope s_law) := ⟨rfl, rfl, rfl, by decide +kernel, rfl, by decide +kernel, by decide +kernel⟩
structure Txt (K : PySem.W.Frag) (mg : Str → Option Value) : Prop where
  b_abs : mg "abs" = none
  b_len : mg "len" = none
  b_isinstance : mg "isinstance" = none
  b_str : mg "str" = none
  b_int : mg "int" = none
  b_bool : mg "bool" = none
  b_list : mg "list" = none
  b_tuple : mg "tuple" = none
  b_range : mg "range" = none
  b_enumerate : mg "enumerate" = none
  b_min : mg "min" = none
  b_all : mg "all" = none
  b_any : mg "any" = none
  g_BotError : mg "BotError" = some (.ref (He.ga K "BotError"))
  g_SyntaxFault : mg "SyntaxFault" = some (.ref (He.ga K "SyntaxFault"))
  g_CheckFault : mg "CheckFault" = some (.ref (He.ga K "CheckFault"))
  g_TooLong : mg "TooLong" = some (.ref (He.ga K "TooLong"))
  g_Token : mg "Token" = some (.ref (He.ga K "Token"))
  c_Token : Cls K (He.ga K "Token")
  k_Token : Mk K (He.ga K "Token") (He.ma K (He.ga K "Token") "__init__")
  n_Token_column : NoAttr K (He.ga K "Token") "column"
  n_Token_kind : NoAttr K (He.ga K "Token") "kind"
  n_Token_line : NoAttr K (He.ga K "Token") "line"
  n_Token_text : NoAttr K (He.ga K "Token") "text"
  g_PlanTokens : mg "PlanTokens" = some (.ref (He.ga K "PlanTokens"))
  c_PlanTokens : Cls K (He.ga K "PlanTokens")
  k_PlanTokens : Mk K (He.ga K "PlanTokens") (He.ma K (He.ga K "PlanTokens") "__init__")
  n_PlanTokens_keyword : NoAttr K (He.ga K "PlanTokens") "keyword"
  n_PlanTokens_numbers : NoAttr K (He.ga K "PlanTokens") "numbers"
  n_PlanTokens_robots : NoAttr K (He.ga K "PlanTokens") "robots"
  g_RobotTokens : mg "RobotTokens" = some (.ref (He.ga K "RobotTokens"))
  c_RobotTokens : Cls K (He.ga K "RobotTokens")
  k_RobotTokens : Mk K (He.ga K "RobotTokens") (He.ma K (He.ga K "RobotTokens") "__init__")
  n_RobotTokens_start : NoAttr K (He.ga K "RobotTokens") "start"
  n_RobotTokens_steps : NoAttr K (He.ga K "RobotTokens") "steps"
  g_StepTokens : mg "StepTokens" = some (.ref (He.ga K "StepTokens"))
  c_StepTokens : Cls K (He.ga K "StepTokens")
  k_StepTokens : Mk K (He.ga K "StepTokens") (He.ma K (He.ga K "StepTokens") "__init__")
  n_StepTokens_command : NoAttr K (He.ga K "StepTokens") "command"
  n_StepTokens_label : NoAttr K (He.ga K "StepTokens") "label"
  n_StepTokens_target : NoAttr K (He.ga K "StepTokens") "target"
  m_StepTokens_first : Meth K (He.ga K "StepTokens") "first" (He.ma K (He.ga K "StepTokens") "first")
  g_Parser : mg "Parser" = some (.ref (He.ga K "Parser"))
  c_Parser : Cls K (He.ga K "Parser")
  k_Parser : Mk K (He.ga K "Parser") (He.ma K (He.ga K "Parser") "__init__")
  n_Parser_at : NoAttr K (He.ga K "Parser") "at"
  n_Parser_tokens : NoAttr K (He.ga K "Parser") "tokens"
  m_Parser_next_kind : Meth K (He.ga K "Parser") "next_kind" (He.ma K (He.ga K "Parser") "next_kind")
  m_Parser_take : Meth K (He.ga K "Parser") "take" (He.ma K (He.ga K "Parser") "take")
  m_Parser_take_plan : Meth K (He.ga K "Parser") "take_plan" (He.ma K (He.ga K "Parser") "take_plan")
  m_Parser_take_robot : Meth K (He.ga K "Parser") "take_robot" (He.ma K (He.ga K "Parser") "take_robot")
  m_Parser_take_step : Meth K (He.ga K "Parser") "take_step" (He.ma K (He.ga K "Parser") "take_step")
  g_Plan : mg "Plan" = some (.ref (He.ga K "Plan"))
  c_Plan : Cls K (He.ga K "Plan")
  k_Plan : Mk K (He.ga K "Plan") (He.ma K (He.ga K "Plan") "__init__")
  n_Plan_boxes : NoAttr K (He.ga K "Plan") "boxes"
  n_Plan_first_cells : NoAttr K (He.ga K "Plan") "first_cells"
  n_Plan_steps : NoAttr K (He.ga K "Plan") "steps"
  g_Situation : mg "Situation" = some (.ref (He.ga K "Situation"))
  c_Situation : Cls K (He.ga K "Situation")
  k_Situation : Mk K (He.ga K "Situation") (He.ma K (He.ga K "Situation") "__init__")
  n_Situation_boxes : NoAttr K (He.ga K "Situation") "boxes"
  n_Situation_loaded : NoAttr K (He.ga K "Situation") "loaded"
  n_Situation_next_steps : NoAttr K (He.ga K "Situation") "next_steps"
  n_Situation_robot_cells : NoAttr K (He.ga K "Situation") "robot_cells"
  n_Situation_steps : NoAttr K (He.ga K "Situation") "steps"
  m_Situation_frozen : Meth K (He.ga K "Situation") "frozen" (He.ma K (He.ga K "Situation") "frozen")
  m_Situation_pass_tick : Meth K (He.ga K "Situation") "pass_tick" (He.ma K (He.ga K "Situation") "pass_tick")
  m_Situation_do_step : Meth K (He.ga K "Situation") "do_step" (He.ma K (He.ga K "Situation") "do_step")
  m_Situation_try_step : Meth K (He.ga K "Situation") "try_step" (He.ma K (He.ga K "Situation") "try_step")
  m_Situation_try_move : Meth K (He.ga K "Situation") "try_move" (He.ma K (He.ga K "Situation") "try_move")
  m_Situation_try_pick : Meth K (He.ga K "Situation") "try_pick" (He.ma K (He.ga K "Situation") "try_pick")
  m_Situation_try_put : Meth K (He.ga K "Situation") "try_put" (He.ma K (He.ga K "Situation") "try_put")
  m_Situation_is_jumping : Meth K (He.ga K "Situation") "is_jumping" (He.ma K (He.ga K "Situation") "is_jumping")
  g_Run : mg "Run" = some (.ref (He.ga K "Run"))
  c_Run : Cls K (He.ga K "Run")
  k_Run : Mk K (He.ga K "Run") (He.ma K (He.ga K "Run") "__init__")
  n_Run_begin : NoAttr K (He.ga K "Run") "begin"
  n_Run_length : NoAttr K (He.ga K "Run") "length"
  n_Run_situations : NoAttr K (He.ga K "Run") "situations"
  n_Run_words : NoAttr K (He.ga K "Run") "words"
  m_Run_kept_tick : Meth K (He.ga K "Run") "kept_tick" (He.ma K (He.ga K "Run") "kept_tick")
  m_Run_situation_before : Meth K (He.ga K "Run") "situation_before" (He.ma K (He.ga K "Run") "situation_before")
  m_Run_words_in : Meth K (He.ga K "Run") "words_in" (He.ma K (He.ga K "Run") "words_in")
  m_Run_is_stuck : Meth K (He.ga K "Run") "is_stuck" (He.ma K (He.ga K "Run") "is_stuck")
  g__wall : mg "_wall" = some (.ref (He.ga K "_wall"))
  g_read_tokens : mg "read_tokens" = some (.ref (He.ga K "read_tokens"))
  g_read_row : mg "read_row" = some (.ref (He.ga K "read_row"))
  g_longest_text : mg "longest_text" = some (.ref (He.ga K "longest_text"))
  g_kind_of : mg "kind_of" = some (.ref (He.ga K "kind_of"))
  g_is_valid_number : mg "is_valid_number" = some (.ref (He.ga K "is_valid_number"))
  g_parse_plan : mg "parse_plan" = some (.ref (He.ga K "parse_plan"))
  g_read_plan : mg "read_plan" = some (.ref (He.ga K "read_plan"))
  g_linked_plan : mg "linked_plan" = some (.ref (He.ga K "linked_plan"))
  g_plans_with_all_starts : mg "plans_with_all_starts" = some (.ref (He.ga K "plans_with_all_starts"))
  g_linked_steps : mg "linked_steps" = some (.ref (He.ga K "linked_steps"))
  g_first_labels : mg "first_labels" = some (.ref (He.ga K "first_labels"))
  g_check_plan : mg "check_plan" = some (.ref (He.ga K "check_plan"))
  g_fault_at : mg "fault_at" = some (.ref (He.ga K "fault_at"))
  g_shelf_faults : mg "shelf_faults" = some (.ref (He.ga K "shelf_faults"))
  g_start_faults : mg "start_faults" = some (.ref (He.ga K "start_faults"))
  g_step_faults : mg "step_faults" = some (.ref (He.ga K "step_faults"))
  g_beginning : mg "beginning" = some (.ref (He.ga K "beginning"))
  g_free_starts : mg "free_starts" = some (.ref (He.ga K "free_starts"))
  g_is_free : mg "is_free" = some (.ref (He.ga K "is_free"))
  g__law_random : mg "_law_random" = some (.ref (He.ga K "_law_random"))
  g__law_below : mg "_law_below" = some (.ref (He.ga K "_law_below"))
  g__law_steps : mg "_law_steps" = some (.ref (He.ga K "_law_steps"))
  g__law_repeats : mg "_law_repeats" = some (.ref (He.ga K "_law_repeats"))
  g__law_plan : mg "_law_plan" = some (.ref (He.ga K "_law_plan"))
  g__law_stuck : mg "_law_stuck" = some (.ref (He.ga K "_law_stuck"))
  g__law_empty : mg "_law_empty" = some (.ref (He.ga K "_law_empty"))
  g__law_act : mg "_law_act" = some (.ref (He.ga K "_law_act"))
  g__law_tick : mg "_law_tick" = some (.ref (He.ga K "_law_tick"))
  g__law_cycle : mg "_law_cycle" = some (.ref (He.ga K "_law_cycle"))
  g__law_text : mg "_law_text" = some (.ref (He.ga K "_law_text"))
  g__law_equal : mg "_law_equal" = some (.ref (He.ga K "_law_equal"))
  g_law : mg "law" = some (.ref (He.ga K "law"))
  v_LAST_TICK_TO_REPEAT : ∃ t, mg "LAST_TICK_TO_REPEAT" = some (.int 20000 t)
  g_ROBOTS : mg "ROBOTS" = some (.ref (He.ga K "ROBOTS"))
  v_LETTERS : ∃ t, mg "LETTERS" = some (.str "abcdefghijklmnopqrstuvwxyz" t)
  v_DIGITS : ∃ t, mg "DIGITS" = some (.str "0123456789" t)
  g_SIGNS : mg "SIGNS" = some (.ref (He.ga K "SIGNS"))
  g_JUMPS : mg "JUMPS" = some (.ref (He.ga K "JUMPS"))
  g_COMMANDS : mg "COMMANDS" = some (.ref (He.ga K "COMMANDS"))
  g_KEYWORDS : mg "KEYWORDS" = some (.ref (He.ga K "KEYWORDS"))
  v_LONGEST_NAME : ∃ t, mg "LONGEST_NAME" = some (.int 8 t)
  v_LONGEST_NUMBER : ∃ t, mg "LONGEST_NUMBER" = some (.int 2 t)
  v_NAME : ∃ t, mg "NAME" = some (.str "name" t)
  v_NUMBER : ∃ t, mg "NUMBER" = some (.str "number" t)
  v_END : ∃ t, mg "END" = some (.str "end" t)
  v_FEWEST_CELLS : ∃ t, mg "FEWEST_CELLS" = some (.int 3 t)
  v_MOST_CELLS : ∃ t, mg "MOST_CELLS" = some (.int 12 t)
  v_MOST_BOXES : ∃ t, mg "MOST_BOXES" = some (.int 3 t)
  v_MOST_STEPS : ∃ t, mg "MOST_STEPS" = some (.int 20 t)
  g_REASONS : mg "REASONS" = some (.ref (He.ga K "REASONS"))
  v_BLOCKED : ∃ t, mg "BLOCKED" = some (.str "blocked" t)
  t_ROBOTS : ∀ H : Hp, SqT K H (He.ga K "ROBOTS") [.int 0, .int 1]
  t_SIGNS : ∀ H : Hp, SqT K H (He.ga K "SIGNS") [.str ";", .str ":", .str "{", .str "}"]
  t_JUMPS : ∀ H : Hp, SqT K H (He.ga K "JUMPS") [.str "goto", .str "empty", .str "held"]
  t_COMMANDS : ∀ H : Hp, SqT K H (He.ga K "COMMANDS") [.str "left", .str "right", .str "pick", .str "put", .str "wait", .str "goto", .str "empty", .str "held"]
  t_KEYWORDS : ∀ H : Hp, SqT K H (He.ga K "KEYWORDS") [.str "shelf", .str "robot", .str "left", .str "right", .str "pick", .str "put", .str "wait", .str "goto", .str "empty", .str "held"]
  t_REASONS : ∀ H : Hp, SqT K H (He.ga K "REASONS") [.str "cells", .str "boxes", .str "start", .str "same", .str "steps", .str "duplicate", .str "unknown"]
  F__wall : ∃ fd, FunD K "_wall" "_wall" (defArgs s__wall) (defBody s__wall) (defScope s__wall) [] [] (He.ga K "_wall") fd
  F_SyntaxFault_init : ∃ fd, FunD K "__init__" "SyntaxFault.__init__" (defArgs s_SyntaxFault_init) (defBody s_SyntaxFault_init) (defScope s_SyntaxFault_init) [] [] (He.ma K (He.ga K "SyntaxFault") "__init__") fd
  F_CheckFault_init : ∃ fd, FunD K "__init__" "CheckFault.__init__" (defArgs s_CheckFault_init) (defBody s_CheckFault_init) (defScope s_CheckFault_init) [] [] (He.ma K (He.ga K "CheckFault") "__init__") fd
  F_Token_init : ∃ fd, FunD K "__init__" "Token.__init__" (defArgs s_Token_init) (defBody s_Token_init) (defScope s_Token_init) [] [] (He.ma K (He.ga K "Token") "__init__") fd
  F_read_tokens : ∃ fd, FunD K "read_tokens" "read_tokens" (defArgs s_read_tokens) (defBody s_read_tokens) (defScope s_read_tokens) [] [] (He.ga K "read_tokens") fd
  F_read_row : ∃ fd, FunD K "read_row" "read_row" (defArgs s_read_row) (defBody s_read_row) (defScope s_read_row) [] [] (He.ga K "read_row") fd
  F_longest_text : ∃ fd, FunD K "longest_text" "longest_text" (defArgs s_longest_text) (defBody s_longest_text) (defScope s_longest_text) [] [] (He.ga K "longest_text") fd
  F_kind_of : ∃ fd, FunD K "kind_of" "kind_of" (defArgs s_kind_of) (defBody s_kind_of) (defScope s_kind_of) [] [] (He.ga K "kind_of") fd
  F_is_valid_number : ∃ fd, FunD K "is_valid_number" "is_valid_number" (defArgs s_is_valid_number) (defBody s_is_valid_number) (defScope s_is_valid_number) [] [] (He.ga K "is_valid_number") fd
  F_PlanTokens_init : ∃ fd, FunD K "__init__" "PlanTokens.__init__" (defArgs s_PlanTokens_init) (defBody s_PlanTokens_init) (defScope s_PlanTokens_init) [] [] (He.ma K (He.ga K "PlanTokens") "__init__") fd
  F_RobotTokens_init : ∃ fd, FunD K "__init__" "RobotTokens.__init__" (defArgs s_RobotTokens_init) (defBody s_RobotTokens_init) (defScope s_RobotTokens_init) [] [] (He.ma K (He.ga K "RobotTokens") "__init__") fd
  F_StepTokens_init : ∃ fd, FunD K "__init__" "StepTokens.__init__" (defArgs s_StepTokens_init) (defBody s_StepTokens_init) (defScope s_StepTokens_init) [] [] (He.ma K (He.ga K "StepTokens") "__init__") fd
  F_StepTokens_first : ∃ fd, FunD K "first" "StepTokens.first" (defArgs s_StepTokens_first) (defBody s_StepTokens_first) (defScope s_StepTokens_first) [] [] (He.ma K (He.ga K "StepTokens") "first") fd
  F_Parser_init : ∃ fd, FunD K "__init__" "Parser.__init__" (defArgs s_Parser_init) (defBody s_Parser_init) (defScope s_Parser_init) [] [] (He.ma K (He.ga K "Parser") "__init__") fd
  F_Parser_next_kind : ∃ fd, FunD K "next_kind" "Parser.next_kind" (defArgs s_Parser_next_kind) (defBody s_Parser_next_kind) (defScope s_Parser_next_kind) [] [] (He.ma K (He.ga K "Parser") "next_kind") fd
  F_Parser_take : ∃ fd, FunD K "take" "Parser.take" (defArgs s_Parser_take) (defBody s_Parser_take) (defScope s_Parser_take) [] [] (He.ma K (He.ga K "Parser") "take") fd
  F_Parser_take_plan : ∃ fd, FunD K "take_plan" "Parser.take_plan" (defArgs s_Parser_take_plan) (defBody s_Parser_take_plan) (defScope s_Parser_take_plan) [] [] (He.ma K (He.ga K "Parser") "take_plan") fd
  F_Parser_take_robot : ∃ fd, FunD K "take_robot" "Parser.take_robot" (defArgs s_Parser_take_robot) (defBody s_Parser_take_robot) (defScope s_Parser_take_robot) [] [] (He.ma K (He.ga K "Parser") "take_robot") fd
  F_Parser_take_step : ∃ fd, FunD K "take_step" "Parser.take_step" (defArgs s_Parser_take_step) (defBody s_Parser_take_step) (defScope s_Parser_take_step) [] [] (He.ma K (He.ga K "Parser") "take_step") fd
  F_parse_plan : ∃ fd, FunD K "parse_plan" "parse_plan" (defArgs s_parse_plan) (defBody s_parse_plan) (defScope s_parse_plan) [] [] (He.ga K "parse_plan") fd
  F_Plan_init : ∃ fd, FunD K "__init__" "Plan.__init__" (defArgs s_Plan_init) (defBody s_Plan_init) (defScope s_Plan_init) [] [] (He.ma K (He.ga K "Plan") "__init__") fd
  F_read_plan : ∃ fd, FunD K "read_plan" "read_plan" (defArgs s_read_plan) (defBody s_read_plan) (defScope s_read_plan) [] [] (He.ga K "read_plan") fd
  F_linked_plan : ∃ fd, FunD K "linked_plan" "linked_plan" (defArgs s_linked_plan) (defBody s_linked_plan) (defScope s_linked_plan) [] [] (He.ga K "linked_plan") fd
  F_plans_with_all_starts : ∃ fd, FunD K "plans_with_all_starts" "plans_with_all_starts" (defArgs s_plans_with_all_starts) (defBody s_plans_with_all_starts) (defScope s_plans_with_all_starts) [] [] (He.ga K "plans_with_all_starts") fd
  F_linked_steps : ∃ fd, FunD K "linked_steps" "linked_steps" (defArgs s_linked_steps) (defBody s_linked_steps) (defScope s_linked_steps) [] [] (He.ga K "linked_steps") fd
  F_first_labels : ∃ fd, FunD K "first_labels" "first_labels" (defArgs s_first_labels) (defBody s_first_labels) (defScope s_first_labels) [] [] (He.ga K "first_labels") fd
  F_check_plan : ∃ fd, FunD K "check_plan" "check_plan" (defArgs s_check_plan) (defBody s_check_plan) (defScope s_check_plan) [] [] (He.ga K "check_plan") fd
  F_fault_at : ∃ fd, FunD K "fault_at" "fault_at" (defArgs s_fault_at) (defBody s_fault_at) (defScope s_fault_at) [] [] (He.ga K "fault_at") fd
  F_shelf_faults : ∃ fd, FunD K "shelf_faults" "shelf_faults" (defArgs s_shelf_faults) (defBody s_shelf_faults) (defScope s_shelf_faults) [] [] (He.ga K "shelf_faults") fd
  F_start_faults : ∃ fd, FunD K "start_faults" "start_faults" (defArgs s_start_faults) (defBody s_start_faults) (defScope s_start_faults) [] [] (He.ga K "start_faults") fd
  F_step_faults : ∃ fd, FunD K "step_faults" "step_faults" (defArgs s_step_faults) (defBody s_step_faults) (defScope s_step_faults) [] [] (He.ga K "step_faults") fd
  F_beginning : ∃ fd, FunD K "beginning" "beginning" (defArgs s_beginning) (defBody s_beginning) (defScope s_beginning) [] [] (He.ga K "beginning") fd
  F_Situation_init : ∃ fd, FunD K "__init__" "Situation.__init__" (defArgs s_Situation_init) (defBody s_Situation_init) (defScope s_Situation_init) [] [] (He.ma K (He.ga K "Situation") "__init__") fd
  F_Situation_frozen : ∃ fd, FunD K "frozen" "Situation.frozen" (defArgs s_Situation_frozen) (defBody s_Situation_frozen) (defScope s_Situation_frozen) [] [] (He.ma K (He.ga K "Situation") "frozen") fd
  F_Situation_pass_tick : ∃ fd, FunD K "pass_tick" "Situation.pass_tick" (defArgs s_Situation_pass_tick) (defBody s_Situation_pass_tick) (defScope s_Situation_pass_tick) [] [] (He.ma K (He.ga K "Situation") "pass_tick") fd
  F_Situation_do_step : ∃ fd, FunD K "do_step" "Situation.do_step" (defArgs s_Situation_do_step) (defBody s_Situation_do_step) (defScope s_Situation_do_step) [] [] (He.ma K (He.ga K "Situation") "do_step") fd
  F_Situation_try_step : ∃ fd, FunD K "try_step" "Situation.try_step" (defArgs s_Situation_try_step) (defBody s_Situation_try_step) (defScope s_Situation_try_step) [] [] (He.ma K (He.ga K "Situation") "try_step") fd
  F_Situation_try_move : ∃ fd, FunD K "try_move" "Situation.try_move" (defArgs s_Situation_try_move) (defBody s_Situation_try_move) (defScope s_Situation_try_move) [] [] (He.ma K (He.ga K "Situation") "try_move") fd
  F_Situation_try_pick : ∃ fd, FunD K "try_pick" "Situation.try_pick" (defArgs s_Situation_try_pick) (defBody s_Situation_try_pick) (defScope s_Situation_try_pick) [] [] (He.ma K (He.ga K "Situation") "try_pick") fd
  F_Situation_try_put : ∃ fd, FunD K "try_put" "Situation.try_put" (defArgs s_Situation_try_put) (defBody s_Situation_try_put) (defScope s_Situation_try_put) [] [] (He.ma K (He.ga K "Situation") "try_put") fd
  F_Situation_is_jumping : ∃ fd, FunD K "is_jumping" "Situation.is_jumping" (defArgs s_Situation_is_jumping) (defBody s_Situation_is_jumping) (defScope s_Situation_is_jumping) [] [] (He.ma K (He.ga K "Situation") "is_jumping") fd
  F_Run_init : ∃ fd, FunD K "__init__" "Run.__init__" (defArgs s_Run_init) (defBody s_Run_init) (defScope s_Run_init) [] [] (He.ma K (He.ga K "Run") "__init__") fd
  F_Run_kept_tick : ∃ fd, FunD K "kept_tick" "Run.kept_tick" (defArgs s_Run_kept_tick) (defBody s_Run_kept_tick) (defScope s_Run_kept_tick) [] [] (He.ma K (He.ga K "Run") "kept_tick") fd
  F_Run_situation_before : ∃ fd, FunD K "situation_before" "Run.situation_before" (defArgs s_Run_situation_before) (defBody s_Run_situation_before) (defScope s_Run_situation_before) [] [] (He.ma K (He.ga K "Run") "situation_before") fd
  F_Run_words_in : ∃ fd, FunD K "words_in" "Run.words_in" (defArgs s_Run_words_in) (defBody s_Run_words_in) (defScope s_Run_words_in) [] [] (He.ma K (He.ga K "Run") "words_in") fd
  F_Run_is_stuck : ∃ fd, FunD K "is_stuck" "Run.is_stuck" (defArgs s_Run_is_stuck) (defBody s_Run_is_stuck) (defScope s_Run_is_stuck) [] [] (He.ma K (He.ga K "Run") "is_stuck") fd
  F_free_starts : ∃ fd, FunD K "free_starts" "free_starts" (defArgs s_free_starts) (defBody s_free_starts) (defScope s_free_starts) [] [] (He.ga K "free_starts") fd
  F_is_free : ∃ fd, FunD K "is_free" "is_free" (defArgs s_is_free) (defBody s_is_free) (defScope s_is_free) [] [] (He.ga K "is_free") fd
  F__law_random : ∃ fd, FunD K "_law_random" "_law_random" (defArgs s__law_random) (defBody s__law_random) (defScope s__law_random) [] [] (He.ga K "_law_random") fd
  F__law_below : ∃ fd, FunD K "_law_below" "_law_below" (defArgs s__law_below) (defBody s__law_below) (defScope s__law_below) [] [] (He.ga K "_law_below") fd
  F__law_steps : ∃ fd, FunD K "_law_steps" "_law_steps" (defArgs s__law_steps) (defBody s__law_steps) (defScope s__law_steps) [] [] (He.ga K "_law_steps") fd
  F__law_repeats : ∃ fd, FunD K "_law_repeats" "_law_repeats" (defArgs s__law_repeats) (defBody s__law_repeats) (defScope s__law_repeats) [] [] (He.ga K "_law_repeats") fd
  F__law_plan : ∃ fd, FunD K "_law_plan" "_law_plan" (defArgs s__law_plan) (defBody s__law_plan) (defScope s__law_plan) [] [] (He.ga K "_law_plan") fd
  F__law_stuck : ∃ fd, FunD K "_law_stuck" "_law_stuck" (defArgs s__law_stuck) (defBody s__law_stuck) (defScope s__law_stuck) [] [] (He.ga K "_law_stuck") fd
  F__law_empty : ∃ fd, FunD K "_law_empty" "_law_empty" (defArgs s__law_empty) (defBody s__law_empty) (defScope s__law_empty) [] [] (He.ga K "_law_empty") fd
  F__law_act : ∃ fd, FunD K "_law_act" "_law_act" (defArgs s__law_act) (defBody s__law_act) (defScope s__law_act) [] [] (He.ga K "_law_act") fd
  F__law_tick : ∃ fd, FunD K "_law_tick" "_law_tick" (defArgs s__law_tick) (defBody s__law_tick) (defScope s__law_tick) [] [] (He.ga K "_law_tick") fd
  F__law_cycle : ∃ fd, FunD K "_law_cycle" "_law_cycle" (defArgs s__law_cycle) (defBody s__law_cycle) (defScope s__law_cycle) [] [] (He.ga K "_law_cycle") fd
  F__law_text : ∃ fd, FunD K "_law_text" "_law_text" (defArgs s__law_text) (defBody s__law_text) (defScope s__law_text) [] [] (He.ga K "_law_text") fd
  F__law_equal : ∃ fd, FunD K "_law_equal" "_law_equal" (defArgs s__law_equal) (defBody s__law_equal) (defScope s__law_equal) [] [] (He.ga K "_law_equal") fd
  F_law : ∃ fd, FunD K "law" "law" (defArgs s_law) (defBody s_law) (defScope s_law) [] [] (He.ga K "law") fd
  x_SyntaxFault : OexC K (He.ga K "SyntaxFault")
  i_SyntaxFault : PySem.W.findIn K (.ref (He.ga K "SyntaxFault")) "__init__" = some (some (.ref (He.ma K (He.ga K "SyntaxFault") "__init__")))
  ti_SyntaxFault : PySem.W.typeIn K (.ref (He.ma K (He.ga K "SyntaxFault") "__init__")) = some (.type "function")
  na_SyntaxFault_column : PySem.W.findIn K (.ref (He.ga K "SyntaxFault")) "column" = some none
  na_SyntaxFault_line : PySem.W.findIn K (.ref (He.ga K "SyntaxFault")) "line" = some none
  rd_BotError : ClX.CRead K (He.ga K "BotError") (.type "type") ∧ PySem.W.findCls K (.ref (He.ga K "BotError")) (.type "type") "__init__" = some (.val (.builtin "ValueError.__init__"))
  x_CheckFault : OexC K (He.ga K "CheckFault")
  i_CheckFault : PySem.W.findIn K (.ref (He.ga K "CheckFault")) "__init__" = some (some (.ref (He.ma K (He.ga K "CheckFault") "__init__")))
  ti_CheckFault : PySem.W.typeIn K (.ref (He.ma K (He.ga K "CheckFault") "__init__")) = some (.type "function")
  na_CheckFault_column : PySem.W.findIn K (.ref (He.ga K "CheckFault")) "column" = some none
  na_CheckFault_line : PySem.W.findIn K (.ref (He.ga K "CheckFault")) "line" = some none
  na_CheckFault_reason : PySem.W.findIn K (.ref (He.ga K "CheckFault")) "reason" = some none
  bm_Parser_take : BMeth K (He.ga K "Parser") "take" (He.ma K (He.ga K "Parser") "take")
end SB

set_option maxHeartbeats 0
namespace SB
open PySem PySem.Spec PyProof.Rows L2
def fa : List He.Fa := [.free "abs", .free "len", .free "isinstance", .free "str", .free "int", .free "bool", .free "list", .free "tuple", .free "range", .free "enumerate", .free "min", .free "all", .free "any", .glo "BotError", .glo "SyntaxFault", .glo "CheckFault", .glo "TooLong", .glo "Token", .cls "Token", .mkr "Token", .noat "Token" "column", .noat "Token" "kind", .noat "Token" "line", .noat "Token" "text", .glo "PlanTokens", .cls "PlanTokens", .mkr "PlanTokens", .noat "PlanTokens" "keyword", .noat "PlanTokens" "numbers", .noat "PlanTokens" "robots", .glo "RobotTokens", .cls "RobotTokens", .mkr "RobotTokens", .noat "RobotTokens" "start", .noat "RobotTokens" "steps", .glo "StepTokens", .cls "StepTokens", .mkr "StepTokens", .noat "StepTokens" "command", .noat "StepTokens" "label", .noat "StepTokens" "target", .meth "StepTokens" "first", .glo "Parser", .cls "Parser", .mkr "Parser", .noat "Parser" "at", .noat "Parser" "tokens", .meth "Parser" "next_kind", .meth "Parser" "take", .meth "Parser" "take_plan", .meth "Parser" "take_robot", .meth "Parser" "take_step", .glo "Plan", .cls "Plan", .mkr "Plan", .noat "Plan" "boxes", .noat "Plan" "first_cells", .noat "Plan" "steps", .glo "Situation", .cls "Situation", .mkr "Situation", .noat "Situation" "boxes", .noat "Situation" "loaded", .noat "Situation" "next_steps", .noat "Situation" "robot_cells", .noat "Situation" "steps", .meth "Situation" "frozen", .meth "Situation" "pass_tick", .meth "Situation" "do_step", .meth "Situation" "try_step", .meth "Situation" "try_move", .meth "Situation" "try_pick", .meth "Situation" "try_put", .meth "Situation" "is_jumping", .glo "Run", .cls "Run", .mkr "Run", .noat "Run" "begin", .noat "Run" "length", .noat "Run" "situations", .noat "Run" "words", .meth "Run" "kept_tick", .meth "Run" "situation_before", .meth "Run" "words_in", .meth "Run" "is_stuck", .glo "_wall", .glo "read_tokens", .glo "read_row", .glo "longest_text", .glo "kind_of", .glo "is_valid_number", .glo "parse_plan", .glo "read_plan", .glo "linked_plan", .glo "plans_with_all_starts", .glo "linked_steps", .glo "first_labels", .glo "check_plan", .glo "fault_at", .glo "shelf_faults", .glo "start_faults", .glo "step_faults", .glo "beginning", .glo "free_starts", .glo "is_free", .glo "_law_random", .glo "_law_below", .glo "_law_steps", .glo "_law_repeats", .glo "_law_plan", .glo "_law_stuck", .glo "_law_empty", .glo "_law_act", .glo "_law_tick", .glo "_law_cycle", .glo "_law_text", .glo "_law_equal", .glo "law", .int "LAST_TICK_TO_REPEAT" 20000, .glo "ROBOTS", .str "LETTERS" "abcdefghijklmnopqrstuvwxyz", .str "DIGITS" "0123456789", .glo "SIGNS", .glo "JUMPS", .glo "COMMANDS", .glo "KEYWORDS", .int "LONGEST_NAME" 8, .int "LONGEST_NUMBER" 2, .str "NAME" "name", .str "NUMBER" "number", .str "END" "end", .int "FEWEST_CELLS" 3, .int "MOST_CELLS" 12, .int "MOST_BOXES" 3, .int "MOST_STEPS" 20, .glo "REASONS", .str "BLOCKED" "blocked"]
def d__wall : He.DefD := ⟨("_wall", none), "_wall", "_wall", defArgs s__wall, defBody s__wall, defScope s__wall, [], []⟩
def d_SyntaxFault_init : He.DefD := ⟨("SyntaxFault", some "__init__"), "__init__", "SyntaxFault.__init__", defArgs s_SyntaxFault_init, defBody s_SyntaxFault_init, defScope s_SyntaxFault_init, [], []⟩
def d_CheckFault_init : He.DefD := ⟨("CheckFault", some "__init__"), "__init__", "CheckFault.__init__", defArgs s_CheckFault_init, defBody s_CheckFault_init, defScope s_CheckFault_init, [], []⟩
def d_Token_init : He.DefD := ⟨("Token", some "__init__"), "__init__", "Token.__init__", defArgs s_Token_init, defBody s_Token_init, defScope s_Token_init, [], []⟩
def d_read_tokens : He.DefD := ⟨("read_tokens", none), "read_tokens", "read_tokens", defArgs s_read_tokens, defBody s_read_tokens, defScope s_read_tokens, [], []⟩
def d_read_row : He.DefD := ⟨("read_row", none), "read_row", "read_row", defArgs s_read_row, defBody s_read_row, defScope s_read_row, [], []⟩
def d_longest_text : He.DefD := ⟨("longest_text", none), "longest_text", "longest_text", defArgs s_longest_text, defBody s_longest_text, defScope s_longest_text, [], []⟩
def d_kind_of : He.DefD := ⟨("kind_of", none), "kind_of", "kind_of", defArgs s_kind_of, defBody s_kind_of, defScope s_kind_of, [], []⟩
def d_is_valid_number : He.DefD := ⟨("is_valid_number", none), "is_valid_number", "is_valid_number", defArgs s_is_valid_number, defBody s_is_valid_number, defScope s_is_valid_number, [], []⟩
def d_PlanTokens_init : He.DefD := ⟨("PlanTokens", some "__init__"), "__init__", "PlanTokens.__init__", defArgs s_PlanTokens_init, defBody s_PlanTokens_init, defScope s_PlanTokens_init, [], []⟩
def d_RobotTokens_init : He.DefD := ⟨("RobotTokens", some "__init__"), "__init__", "RobotTokens.__init__", defArgs s_RobotTokens_init, defBody s_RobotTokens_init, defScope s_RobotTokens_init, [], []⟩
def d_StepTokens_init : He.DefD := ⟨("StepTokens", some "__init__"), "__init__", "StepTokens.__init__", defArgs s_StepTokens_init, defBody s_StepTokens_init, defScope s_StepTokens_init, [], []⟩
def d_StepTokens_first : He.DefD := ⟨("StepTokens", some "first"), "first", "StepTokens.first", defArgs s_StepTokens_first, defBody s_StepTokens_first, defScope s_StepTokens_first, [], []⟩
def d_Parser_init : He.DefD := ⟨("Parser", some "__init__"), "__init__", "Parser.__init__", defArgs s_Parser_init, defBody s_Parser_init, defScope s_Parser_init, [], []⟩
def d_Parser_next_kind : He.DefD := ⟨("Parser", some "next_kind"), "next_kind", "Parser.next_kind", defArgs s_Parser_next_kind, defBody s_Parser_next_kind, defScope s_Parser_next_kind, [], []⟩
def d_Parser_take : He.DefD := ⟨("Parser", some "take"), "take", "Parser.take", defArgs s_Parser_take, defBody s_Parser_take, defScope s_Parser_take, [], []⟩
def d_Parser_take_plan : He.DefD := ⟨("Parser", some "take_plan"), "take_plan", "Parser.take_plan", defArgs s_Parser_take_plan, defBody s_Parser_take_plan, defScope s_Parser_take_plan, [], []⟩
def d_Parser_take_robot : He.DefD := ⟨("Parser", some "take_robot"), "take_robot", "Parser.take_robot", defArgs s_Parser_take_robot, defBody s_Parser_take_robot, defScope s_Parser_take_robot, [], []⟩
def d_Parser_take_step : He.DefD := ⟨("Parser", some "take_step"), "take_step", "Parser.take_step", defArgs s_Parser_take_step, defBody s_Parser_take_step, defScope s_Parser_take_step, [], []⟩
def d_parse_plan : He.DefD := ⟨("parse_plan", none), "parse_plan", "parse_plan", defArgs s_parse_plan, defBody s_parse_plan, defScope s_parse_plan, [], []⟩
def d_Plan_init : He.DefD := ⟨("Plan", some "__init__"), "__init__", "Plan.__init__", defArgs s_Plan_init, defBody s_Plan_init, defScope s_Plan_init, [], []⟩
def d_read_plan : He.DefD := ⟨("read_plan", none), "read_plan", "read_plan", defArgs s_read_plan, defBody s_read_plan, defScope s_read_plan, [], []⟩
def d_linked_plan : He.DefD := ⟨("linked_plan", none), "linked_plan", "linked_plan", defArgs s_linked_plan, defBody s_linked_plan, defScope s_linked_plan, [], []⟩
def d_plans_with_all_starts : He.DefD := ⟨("plans_with_all_starts", none), "plans_with_all_starts", "plans_with_all_starts", defArgs s_plans_with_all_starts, defBody s_plans_with_all_starts, defScope s_plans_with_all_starts, [], []⟩
def d_linked_steps : He.DefD := ⟨("linked_steps", none), "linked_steps", "linked_steps", defArgs s_linked_steps, defBody s_linked_steps, defScope s_linked_steps, [], []⟩
def d_first_labels : He.DefD := ⟨("first_labels", none), "first_labels", "first_labels", defArgs s_first_labels, defBody s_first_labels, defScope s_first_labels, [], []⟩
def d_check_plan : He.DefD := ⟨("check_plan", none), "check_plan", "check_plan", defArgs s_check_plan, defBody s_check_plan, defScope s_check_plan, [], []⟩
def d_fault_at : He.DefD := ⟨("fault_at", none), "fault_at", "fault_at", defArgs s_fault_at, defBody s_fault_at, defScope s_fault_at, [], []⟩
def d_shelf_faults : He.DefD := ⟨("shelf_faults", none), "shelf_faults", "shelf_faults", defArgs s_shelf_faults, defBody s_shelf_faults, defScope s_shelf_faults, [], []⟩
def d_start_faults : He.DefD := ⟨("start_faults", none), "start_faults", "start_faults", defArgs s_start_faults, defBody s_start_faults, defScope s_start_faults, [], []⟩
def d_step_faults : He.DefD := ⟨("step_faults", none), "step_faults", "step_faults", defArgs s_step_faults, defBody s_step_faults, defScope s_step_faults, [], []⟩
def d_beginning : He.DefD := ⟨("beginning", none), "beginning", "beginning", defArgs s_beginning, defBody s_beginning, defScope s_beginning, [], []⟩
def d_Situation_init : He.DefD := ⟨("Situation", some "__init__"), "__init__", "Situation.__init__", defArgs s_Situation_init, defBody s_Situation_init, defScope s_Situation_init, [], []⟩
def d_Situation_frozen : He.DefD := ⟨("Situation", some "frozen"), "frozen", "Situation.frozen", defArgs s_Situation_frozen, defBody s_Situation_frozen, defScope s_Situation_frozen, [], []⟩
def d_Situation_pass_tick : He.DefD := ⟨("Situation", some "pass_tick"), "pass_tick", "Situation.pass_tick", defArgs s_Situation_pass_tick, defBody s_Situation_pass_tick, defScope s_Situation_pass_tick, [], []⟩
def d_Situation_do_step : He.DefD := ⟨("Situation", some "do_step"), "do_step", "Situation.do_step", defArgs s_Situation_do_step, defBody s_Situation_do_step, defScope s_Situation_do_step, [], []⟩
def d_Situation_try_step : He.DefD := ⟨("Situation", some "try_step"), "try_step", "Situation.try_step", defArgs s_Situation_try_step, defBody s_Situation_try_step, defScope s_Situation_try_step, [], []⟩
def d_Situation_try_move : He.DefD := ⟨("Situation", some "try_move"), "try_move", "Situation.try_move", defArgs s_Situation_try_move, defBody s_Situation_try_move, defScope s_Situation_try_move, [], []⟩
def d_Situation_try_pick : He.DefD := ⟨("Situation", some "try_pick"), "try_pick", "Situation.try_pick", defArgs s_Situation_try_pick, defBody s_Situation_try_pick, defScope s_Situation_try_pick, [], []⟩
def d_Situation_try_put : He.DefD := ⟨("Situation", some "try_put"), "try_put", "Situation.try_put", defArgs s_Situation_try_put, defBody s_Situation_try_put, defScope s_Situation_try_put, [], []⟩
def d_Situation_is_jumping : He.DefD := ⟨("Situation", some "is_jumping"), "is_jumping", "Situation.is_jumping", defArgs s_Situation_is_jumping, defBody s_Situation_is_jumping, defScope s_Situation_is_jumping, [], []⟩
def d_Run_init : He.DefD := ⟨("Run", some "__init__"), "__init__", "Run.__init__", defArgs s_Run_init, defBody s_Run_init, defScope s_Run_init, [], []⟩
def d_Run_kept_tick : He.DefD := ⟨("Run", some "kept_tick"), "kept_tick", "Run.kept_tick", defArgs s_Run_kept_tick, defBody s_Run_kept_tick, defScope s_Run_kept_tick, [], []⟩
def d_Run_situation_before : He.DefD := ⟨("Run", some "situation_before"), "situation_before", "Run.situation_before", defArgs s_Run_situation_before, defBody s_Run_situation_before, defScope s_Run_situation_before, [], []⟩
def d_Run_words_in : He.DefD := ⟨("Run", some "words_in"), "words_in", "Run.words_in", defArgs s_Run_words_in, defBody s_Run_words_in, defScope s_Run_words_in, [], []⟩
def d_Run_is_stuck : He.DefD := ⟨("Run", some "is_stuck"), "is_stuck", "Run.is_stuck", defArgs s_Run_is_stuck, defBody s_Run_is_stuck, defScope s_Run_is_stuck, [], []⟩
def d_free_starts : He.DefD := ⟨("free_starts", none), "free_starts", "free_starts", defArgs s_free_starts, defBody s_free_starts, defScope s_free_starts, [], []⟩
def d_is_free : He.DefD := ⟨("is_free", none), "is_free", "is_free", defArgs s_is_free, defBody s_is_free, defScope s_is_free, [], []⟩
def d__law_random : He.DefD := ⟨("_law_random", none), "_law_random", "_law_random", defArgs s__law_random, defBody s__law_random, defScope s__law_random, [], []⟩
def d__law_below : He.DefD := ⟨("_law_below", none), "_law_below", "_law_below", defArgs s__law_below, defBody s__law_below, defScope s__law_below, [], []⟩
def d__law_steps : He.DefD := ⟨("_law_steps", none), "_law_steps", "_law_steps", defArgs s__law_steps, defBody s__law_steps, defScope s__law_steps, [], []⟩
def d__law_repeats : He.DefD := ⟨("_law_repeats", none), "_law_repeats", "_law_repeats", defArgs s__law_repeats, defBody s__law_repeats, defScope s__law_repeats, [], []⟩
def d__law_plan : He.DefD := ⟨("_law_plan", none), "_law_plan", "_law_plan", defArgs s__law_plan, defBody s__law_plan, defScope s__law_plan, [], []⟩
def d__law_stuck : He.DefD := ⟨("_law_stuck", none), "_law_stuck", "_law_stuck", defArgs s__law_stuck, defBody s__law_stuck, defScope s__law_stuck, [], []⟩
def d__law_empty : He.DefD := ⟨("_law_empty", none), "_law_empty", "_law_empty", defArgs s__law_empty, defBody s__law_empty, defScope s__law_empty, [], []⟩
def d__law_act : He.DefD := ⟨("_law_act", none), "_law_act", "_law_act", defArgs s__law_act, defBody s__law_act, defScope s__law_act, [], []⟩
def d__law_tick : He.DefD := ⟨("_law_tick", none), "_law_tick", "_law_tick", defArgs s__law_tick, defBody s__law_tick, defScope s__law_tick, [], []⟩
def d__law_cycle : He.DefD := ⟨("_law_cycle", none), "_law_cycle", "_law_cycle", defArgs s__law_cycle, defBody s__law_cycle, defScope s__law_cycle, [], []⟩
def d__law_text : He.DefD := ⟨("_law_text", none), "_law_text", "_law_text", defArgs s__law_text, defBody s__law_text, defScope s__law_text, [], []⟩
def d__law_equal : He.DefD := ⟨("_law_equal", none), "_law_equal", "_law_equal", defArgs s__law_equal, defBody s__law_equal, defScope s__law_equal, [], []⟩
def d_law : He.DefD := ⟨("law", none), "law", "law", defArgs s_law, defBody s_law, defScope s_law, [], []⟩
def fn : List He.DefD := [d__wall, d_SyntaxFault_init, d_CheckFault_init, d_Token_init, d_read_tokens, d_read_row, d_longest_text, d_kind_of, d_is_valid_number, d_PlanTokens_init, d_RobotTokens_init, d_StepTokens_init, d_StepTokens_first, d_Parser_init, d_Parser_next_kind, d_Parser_take, d_Parser_take_plan, d_Parser_take_robot, d_Parser_take_step, d_parse_plan, d_Plan_init, d_read_plan, d_linked_plan, d_plans_with_all_starts, d_linked_steps, d_first_labels, d_check_plan, d_fault_at, d_shelf_faults, d_start_faults, d_step_faults, d_beginning, d_Situation_init, d_Situation_frozen, d_Situation_pass_tick, d_Situation_do_step, d_Situation_try_step, d_Situation_try_move, d_Situation_try_pick, d_Situation_try_put, d_Situation_is_jumping, d_Run_init, d_Run_kept_tick, d_Run_situation_before, d_Run_words_in, d_Run_is_stuck, d_free_starts, d_is_free, d__law_random, d__law_below, d__law_steps, d__law_repeats, d__law_plan, d__law_stuck, d__law_empty, d__law_act, d__law_tick, d__law_cycle, d__law_text, d__law_equal, d_law]
def ex (K : PySem.W.Frag) : Bool := He.tupB K "ROBOTS" [.int 0, .int 1] && (He.tupB K "SIGNS" [.str ";", .str ":", .str "{", .str "}"] && (He.tupB K "JUMPS" [.str "goto", .str "empty", .str "held"] && (He.tupB K "COMMANDS" [.str "left", .str "right", .str "pick", .str "put", .str "wait", .str "goto", .str "empty", .str "held"] && (He.tupB K "KEYWORDS" [.str "shelf", .str "robot", .str "left", .str "right", .str "pick", .str "put", .str "wait", .str "goto", .str "empty", .str "held"] && (He.tupB K "REASONS" [.str "cells", .str "boxes", .str "start", .str "same", .str "steps", .str "duplicate", .str "unknown"] && ((He.eqO (PySem.W.specialIn K (.ref (He.ma K (He.ga K "Parser") "take")) "__get__") (some (some (.builtin "function.__get__"))) && (decide (PySem.W.takesIn K (.ref (He.ma K (He.ga K "Parser") "take")) = some false) && PySem.W.fnIn K (He.ma K (He.ga K "Parser") "take"))) && ((oexB K (He.ga K "SyntaxFault")) && ((He.eqO (PySem.W.findIn K (.ref (He.ga K "SyntaxFault")) "__init__") (some (some (.ref (He.ma K (He.ga K "SyntaxFault") "__init__"))))) && ((decide (PySem.W.typeIn K (.ref (He.ma K (He.ga K "SyntaxFault") "__init__")) = some (.type "function"))) && ((He.eqO (PySem.W.findIn K (.ref (He.ga K "SyntaxFault")) "column") (some none)) && ((He.eqO (PySem.W.findIn K (.ref (He.ga K "SyntaxFault")) "line") (some none)) && ((binitB K (He.ga K "BotError")) && ((oexB K (He.ga K "CheckFault")) && ((He.eqO (PySem.W.findIn K (.ref (He.ga K "CheckFault")) "__init__") (some (some (.ref (He.ma K (He.ga K "CheckFault") "__init__"))))) && ((decide (PySem.W.typeIn K (.ref (He.ma K (He.ga K "CheckFault") "__init__")) = some (.type "function"))) && ((He.eqO (PySem.W.findIn K (.ref (He.ga K "CheckFault")) "column") (some none)) && ((He.eqO (PySem.W.findIn K (.ref (He.ga K "CheckFault")) "line") (some none)) && ((He.eqO (PySem.W.findIn K (.ref (He.ga K "CheckFault")) "reason") (some none))))))))))))))))))))
def loose0 : List Str := [("_wall" : Str), ("BotError" : Str), ("SyntaxFault" : Str), ("CheckFault" : Str), ("TooLong" : Str), ("LAST_TICK_TO_REPEAT" : Str), ("ROBOTS" : Str), ("LETTERS" : Str), ("DIGITS" : Str), ("SIGNS" : Str), ("JUMPS" : Str), ("COMMANDS" : Str), ("KEYWORDS" : Str), ("LONGEST_NAME" : Str), ("LONGEST_NUMBER" : Str), ("NAME" : Str), ("NUMBER" : Str), ("END" : Str), ("Token" : Str), ("read_tokens" : Str), ("read_row" : Str), ("longest_text" : Str), ("kind_of" : Str), ("is_valid_number" : Str), ("PlanTokens" : Str), ("RobotTokens" : Str), ("StepTokens" : Str), ("Parser" : Str), ("parse_plan" : Str), ("FEWEST_CELLS" : Str)]
def loose1 : List Str := [("MOST_CELLS" : Str), ("MOST_BOXES" : Str), ("MOST_STEPS" : Str), ("REASONS" : Str), ("Plan" : Str), ("read_plan" : Str), ("linked_plan" : Str), ("plans_with_all_starts" : Str), ("linked_steps" : Str), ("first_labels" : Str), ("check_plan" : Str), ("fault_at" : Str), ("shelf_faults" : Str), ("start_faults" : Str), ("step_faults" : Str), ("BLOCKED" : Str), ("beginning" : Str), ("Situation" : Str), ("Run" : Str), ("free_starts" : Str), ("is_free" : Str), ("_law_random" : Str), ("_law_below" : Str), ("_law_steps" : Str), ("_law_repeats" : Str), ("_law_plan" : Str), ("_law_stuck" : Str), ("_law_empty" : Str), ("_law_act" : Str), ("_law_tick" : Str)]
def loose2 : List Str := [("_law_cycle" : Str), ("_law_text" : Str), ("_law_equal" : Str)]
def loose : List Str := loose0 ++ loose1 ++ loose2
abbrev R : PySem.W.OpenRow := PySem.W.OpenLaw.row PySem.Challenge.rw_shelfbots_k08_free_starts_of_plans
abbrev Qv : Program := PySem.W.view R.prog [71]
def as0 : List Addr := [3, 2, 6, 4, 21, 31, 51, 70, 82, 85, 86, 87, 88, 89, 106, 117, 124, 131, 138, 145, 162, 183, 211, 267, 278, 279, 296, 307, 312, 317, 324, 331, 338, 345, 352, 357, 364, 371, 444, 491, 500, 505, 510, 517, 524, 529, 534, 539, 546, 551, 558, 563, 568, 573, 580, 0, 20, 30, 50, 69, 81, 105, 116, 123, 130, 137, 144, 161, 182, 210, 266, 277, 295, 306, 311, 316, 323, 330, 337, 344, 351, 356, 363, 370, 443, 490, 499, 504, 509, 516, 523, 528, 533, 538, 545, 550, 557, 562, 567, 572, 579, 15, 16, 17, 18, 19, 29, 32, 48, 49, 67, 68, 80, 103, 104, 107, 108, 111, 112, 113, 114, 115, 118, 119, 120, 121, 122, 125, 126, 127, 128, 129, 132, 133, 134, 135, 136, 139, 140, 141, 142, 143, 159, 160, 163, 164, 180, 181, 184, 185, 201, 208, 209, 212, 213, 229, 236, 243, 250, 257, 264, 265, 268, 269, 272, 273, 274, 275, 276, 293, 294, 297, 298, 301, 302, 303, 304, 305, 308, 309, 310, 313, 314, 315, 318, 319, 320, 321, 322, 325, 326, 327, 328, 329, 332, 333, 334, 335, 336, 339, 340, 341, 342, 343, 346, 347, 348, 349, 350, 353, 354, 355, 358, 359, 360, 361, 362, 365, 366, 367, 368, 369, 385, 392, 399, 406, 413, 420, 427, 434, 441, 442, 445, 446, 462, 469, 476, 483, 488, 489, 492, 493, 496, 497, 498, 501, 502, 503, 506, 507, 508, 511, 512, 513, 514, 515, 518, 519, 520, 521, 522, 525, 526, 527, 530, 531, 532, 535, 536, 537, 540, 541, 542, 543, 544, 547, 548, 549, 552, 553, 554, 555, 556, 559, 560, 561, 564, 565, 566, 569, 570, 571, 574, 575, 576, 577, 578, 47, 66, 102, 158, 179, 200, 207, 228, 235, 242, 249, 256, 263, 292, 384, 391, 398, 405, 412, 419, 426, 433, 440, 461, 468, 475, 482, 487, 42, 43, 44, 45, 46, 61, 62, 63, 64, 65, 97, 98, 99, 100, 101, 153, 154, 155, 156, 157, 174, 175, 176, 177, 178, 195, 196, 197, 198, 199, 202, 203, 204, 205, 206, 223, 224, 225, 226, 227, 230, 231, 232, 233, 234, 237, 238, 239, 240, 241, 244, 245, 246, 247, 248, 251, 252, 253, 254, 255, 258, 259, 260, 261, 262, 287, 288, 289, 290, 291, 379, 380, 381, 382, 383, 386, 387, 388, 389, 390, 393, 394, 395, 396, 397, 400, 401, 402, 403, 404, 407, 408, 409, 410, 411, 414, 415, 416, 417, 418, 421, 422, 423, 424, 425, 428, 429, 430, 431, 432, 435, 436, 437, 438, 439, 456, 457, 458, 459, 460, 463, 464, 465, 466, 467, 470, 471, 472, 473, 474, 477, 478, 479, 480, 481, 484, 485, 486]
def fn1 : List He.DefD := [d__wall, d_SyntaxFault_init, d_CheckFault_init, d_Token_init, d_read_tokens, d_read_row, d_longest_text, d_kind_of, d_is_valid_number, d_PlanTokens_init, d_RobotTokens_init, d_StepTokens_init, d_StepTokens_first, d_Parser_init, d_Parser_next_kind, d_Parser_take, d_Parser_take_plan, d_Parser_take_robot, d_Parser_take_step, d_parse_plan, d_Plan_init, d_read_plan, d_linked_plan, d_plans_with_all_starts, d_linked_steps, d_first_labels, d_check_plan, d_fault_at, d_shelf_faults, d_start_faults, d_step_faults]
def fn2 : List He.DefD := [d_beginning, d_Situation_init, d_Situation_frozen, d_Situation_pass_tick, d_Situation_do_step, d_Situation_try_step, d_Situation_try_move, d_Situation_try_pick, d_Situation_try_put, d_Situation_is_jumping, d_Run_init, d_Run_kept_tick, d_Run_situation_before, d_Run_words_in, d_Run_is_stuck, d_free_starts, d_is_free, d__law_random, d__law_below, d__law_steps, d__law_repeats, d__law_plan, d__law_stuck, d__law_empty, d__law_act, d__law_tick, d__law_cycle, d__law_text, d__law_equal, d_law]
abbrev hk : PySem.W.Hook := hookA as0 fa fn ex
def ob (s : PySem.W.SharedT) : He.AlX := seeA as0 fa fn ex (HandSHeadRun.getT s)
theorem ob_eq (s : PySem.W.SharedT) : ob s = hk.obs s.abs := seeA_eq (HandSHeadRun.getT_eq s)
section
open PySem.W HandSHeadRun
theorem runA (w : World) (os : OsState) : (endR R 20000 w os).map (fun s => (HandSHeadRun.looksF R.prog (boot_heap w.params) s.abs, HandSHeadRun.seenQ Qv loose (importedModules R.prog.main.body) (fun s => xlAt Qv [] s && recOk R.toRowW.records s) s.abs)) = some (true, openGood Qv loose) := by kernel_rfl
theorem runB (w : World) (os : OsState) : (endR R 20000 w os).map (fun s => (fa.all fun f => f.ok (He.frT (HandSHeadRun.getT s) as0)) && ex (He.frT (HandSHeadRun.getT s) as0)) = some true := by kernel_rfl
theorem runC1 (w : World) (os : OsState) : (endR R 20000 w os).map (fun s => (fn1.all fun d => d.ok (He.frT (HandSHeadRun.getT s) as0), fn1.map fun d => He.fnW (He.frT (HandSHeadRun.getT s) as0) d.at_)) = some (true, fn1.map He.DefD.val) := by kernel_rfl
theorem runC2 (w : World) (os : OsState) : (endR R 20000 w os).map (fun s => (fn2.all fun d => d.ok (He.frT (HandSHeadRun.getT s) as0), fn2.map fun d => He.fnW (He.frT (HandSHeadRun.getT s) as0) d.at_)) = some (true, fn2.map He.DefD.val) := by kernel_rfl
end
theorem run (w : World) : HandSHeadRun.RunEq R Qv hk ob 20000 loose w := run_parts (runA w) (runB w) (runC1 w) (runC2 w) rfl
theorem txt {w : World} {h : Heap} {K : PySem.W.Frag} {mg : Str → Option Value} (KX : K.In h) (G : h.Ns mainGlobals mg) (z : He.SaysX fa fn [] [] ex w h K) : Txt K mg := by
  have c := z.t.d
  have e := z.more
  unfold ex at e
  obtain ⟨e0, e⟩ := He.ba e
  obtain ⟨e1, e⟩ := He.ba e
  obtain ⟨e2, e⟩ := He.ba e
  obtain ⟨e3, e⟩ := He.ba e
  obtain ⟨e4, e⟩ := He.ba e
  obtain ⟨e5, e⟩ := He.ba e
  obtain ⟨e6, e⟩ := He.ba e
  obtain ⟨e7, e⟩ := He.ba e
  obtain ⟨e8, e⟩ := He.ba e
  obtain ⟨e9, e⟩ := He.ba e
  obtain ⟨e10, e⟩ := He.ba e
  obtain ⟨e11, e⟩ := He.ba e
  obtain ⟨e12, e⟩ := He.ba e
  obtain ⟨e13, e⟩ := He.ba e
  obtain ⟨e14, e⟩ := He.ba e
  obtain ⟨e15, e⟩ := He.ba e
  obtain ⟨e16, e⟩ := He.ba e
  obtain ⟨e17, e⟩ := He.ba e
  exact {
    b_abs := He.free_ok KX G (c.fact 0 rfl)
    b_len := He.free_ok KX G (c.fact 1 rfl)
    b_isinstance := He.free_ok KX G (c.fact 2 rfl)
    b_str := He.free_ok KX G (c.fact 3 rfl)
    b_int := He.free_ok KX G (c.fact 4 rfl)
    b_bool := He.free_ok KX G (c.fact 5 rfl)
    b_list := He.free_ok KX G (c.fact 6 rfl)
    b_tuple := He.free_ok KX G (c.fact 7 rfl)
    b_range := He.free_ok KX G (c.fact 8 rfl)
    b_enumerate := He.free_ok KX G (c.fact 9 rfl)
    b_min := He.free_ok KX G (c.fact 10 rfl)
    b_all := He.free_ok KX G (c.fact 11 rfl)
    b_any := He.free_ok KX G (c.fact 12 rfl)
    g_BotError := He.glo_ok KX G (c.fact 13 rfl)
    g_SyntaxFault := He.glo_ok KX G (c.fact 14 rfl)
    g_CheckFault := He.glo_ok KX G (c.fact 15 rfl)
    g_TooLong := He.glo_ok KX G (c.fact 16 rfl)
    g_Token := He.glo_ok KX G (c.fact 17 rfl)
    c_Token := He.cls_ok (c.fact 18 rfl)
    k_Token := He.mkr_ok (c.fact 19 rfl)
    n_Token_column := He.noat_ok (c.fact 20 rfl)
    n_Token_kind := He.noat_ok (c.fact 21 rfl)
    n_Token_line := He.noat_ok (c.fact 22 rfl)
    n_Token_text := He.noat_ok (c.fact 23 rfl)
    g_PlanTokens := He.glo_ok KX G (c.fact 24 rfl)
    c_PlanTokens := He.cls_ok (c.fact 25 rfl)
    k_PlanTokens := He.mkr_ok (c.fact 26 rfl)
    n_PlanTokens_keyword := He.noat_ok (c.fact 27 rfl)
    n_PlanTokens_numbers := He.noat_ok (c.fact 28 rfl)
    n_PlanTokens_robots := He.noat_ok (c.fact 29 rfl)
    g_RobotTokens := He.glo_ok KX G (c.fact 30 rfl)
    c_RobotTokens := He.cls_ok (c.fact 31 rfl)
    k_RobotTokens := He.mkr_ok (c.fact 32 rfl)
    n_RobotTokens_start := He.noat_ok (c.fact 33 rfl)
    n_RobotTokens_steps := He.noat_ok (c.fact 34 rfl)
    g_StepTokens := He.glo_ok KX G (c.fact 35 rfl)
    c_StepTokens := He.cls_ok (c.fact 36 rfl)
    k_StepTokens := He.mkr_ok (c.fact 37 rfl)
    n_StepTokens_command := He.noat_ok (c.fact 38 rfl)
    n_StepTokens_label := He.noat_ok (c.fact 39 rfl)
    n_StepTokens_target := He.noat_ok (c.fact 40 rfl)
    m_StepTokens_first := He.meth_ok (c.fact 41 rfl)
    g_Parser := He.glo_ok KX G (c.fact 42 rfl)
    c_Parser := He.cls_ok (c.fact 43 rfl)
    k_Parser := He.mkr_ok (c.fact 44 rfl)
    n_Parser_at := He.noat_ok (c.fact 45 rfl)
    n_Parser_tokens := He.noat_ok (c.fact 46 rfl)
    m_Parser_next_kind := He.meth_ok (c.fact 47 rfl)
    m_Parser_take := He.meth_ok (c.fact 48 rfl)
    m_Parser_take_plan := He.meth_ok (c.fact 49 rfl)
    m_Parser_take_robot := He.meth_ok (c.fact 50 rfl)
    m_Parser_take_step := He.meth_ok (c.fact 51 rfl)
    g_Plan := He.glo_ok KX G (c.fact 52 rfl)
    c_Plan := He.cls_ok (c.fact 53 rfl)
    k_Plan := He.mkr_ok (c.fact 54 rfl)
    n_Plan_boxes := He.noat_ok (c.fact 55 rfl)
    n_Plan_first_cells := He.noat_ok (c.fact 56 rfl)
    n_Plan_steps := He.noat_ok (c.fact 57 rfl)
    g_Situation := He.glo_ok KX G (c.fact 58 rfl)
    c_Situation := He.cls_ok (c.fact 59 rfl)
    k_Situation := He.mkr_ok (c.fact 60 rfl)
    n_Situation_boxes := He.noat_ok (c.fact 61 rfl)
    n_Situation_loaded := He.noat_ok (c.fact 62 rfl)
    n_Situation_next_steps := He.noat_ok (c.fact 63 rfl)
    n_Situation_robot_cells := He.noat_ok (c.fact 64 rfl)
    n_Situation_steps := He.noat_ok (c.fact 65 rfl)
    m_Situation_frozen := He.meth_ok (c.fact 66 rfl)
    m_Situation_pass_tick := He.meth_ok (c.fact 67 rfl)
    m_Situation_do_step := He.meth_ok (c.fact 68 rfl)
    m_Situation_try_step := He.meth_ok (c.fact 69 rfl)
    m_Situation_try_move := He.meth_ok (c.fact 70 rfl)
    m_Situation_try_pick := He.meth_ok (c.fact 71 rfl)
    m_Situation_try_put := He.meth_ok (c.fact 72 rfl)
    m_Situation_is_jumping := He.meth_ok (c.fact 73 rfl)
    g_Run := He.glo_ok KX G (c.fact 74 rfl)
    c_Run := He.cls_ok (c.fact 75 rfl)
    k_Run := He.mkr_ok (c.fact 76 rfl)
    n_Run_begin := He.noat_ok (c.fact 77 rfl)
    n_Run_length := He.noat_ok (c.fact 78 rfl)
    n_Run_situations := He.noat_ok (c.fact 79 rfl)
    n_Run_words := He.noat_ok (c.fact 80 rfl)
    m_Run_kept_tick := He.meth_ok (c.fact 81 rfl)
    m_Run_situation_before := He.meth_ok (c.fact 82 rfl)
    m_Run_words_in := He.meth_ok (c.fact 83 rfl)
    m_Run_is_stuck := He.meth_ok (c.fact 84 rfl)
    g__wall := He.glo_ok KX G (c.fact 85 rfl)
    g_read_tokens := He.glo_ok KX G (c.fact 86 rfl)
    g_read_row := He.glo_ok KX G (c.fact 87 rfl)
    g_longest_text := He.glo_ok KX G (c.fact 88 rfl)
    g_kind_of := He.glo_ok KX G (c.fact 89 rfl)
    g_is_valid_number := He.glo_ok KX G (c.fact 90 rfl)
    g_parse_plan := He.glo_ok KX G (c.fact 91 rfl)
    g_read_plan := He.glo_ok KX G (c.fact 92 rfl)
    g_linked_plan := He.glo_ok KX G (c.fact 93 rfl)
    g_plans_with_all_starts := He.glo_ok KX G (c.fact 94 rfl)
    g_linked_steps := He.glo_ok KX G (c.fact 95 rfl)
    g_first_labels := He.glo_ok KX G (c.fact 96 rfl)
    g_check_plan := He.glo_ok KX G (c.fact 97 rfl)
    g_fault_at := He.glo_ok KX G (c.fact 98 rfl)
    g_shelf_faults := He.glo_ok KX G (c.fact 99 rfl)
    g_start_faults := He.glo_ok KX G (c.fact 100 rfl)
    g_step_faults := He.glo_ok KX G (c.fact 101 rfl)
    g_beginning := He.glo_ok KX G (c.fact 102 rfl)
    g_free_starts := He.glo_ok KX G (c.fact 103 rfl)
    g_is_free := He.glo_ok KX G (c.fact 104 rfl)
    g__law_random := He.glo_ok KX G (c.fact 105 rfl)
    g__law_below := He.glo_ok KX G (c.fact 106 rfl)
    g__law_steps := He.glo_ok KX G (c.fact 107 rfl)
    g__law_repeats := He.glo_ok KX G (c.fact 108 rfl)
    g__law_plan := He.glo_ok KX G (c.fact 109 rfl)
    g__law_stuck := He.glo_ok KX G (c.fact 110 rfl)
    g__law_empty := He.glo_ok KX G (c.fact 111 rfl)
    g__law_act := He.glo_ok KX G (c.fact 112 rfl)
    g__law_tick := He.glo_ok KX G (c.fact 113 rfl)
    g__law_cycle := He.glo_ok KX G (c.fact 114 rfl)
    g__law_text := He.glo_ok KX G (c.fact 115 rfl)
    g__law_equal := He.glo_ok KX G (c.fact 116 rfl)
    g_law := He.glo_ok KX G (c.fact 117 rfl)
    v_LAST_TICK_TO_REPEAT := He.int_ok KX G (c.fact 118 rfl)
    g_ROBOTS := He.glo_ok KX G (c.fact 119 rfl)
    v_LETTERS := He.str_ok KX G (c.fact 120 rfl)
    v_DIGITS := He.str_ok KX G (c.fact 121 rfl)
    g_SIGNS := He.glo_ok KX G (c.fact 122 rfl)
    g_JUMPS := He.glo_ok KX G (c.fact 123 rfl)
    g_COMMANDS := He.glo_ok KX G (c.fact 124 rfl)
    g_KEYWORDS := He.glo_ok KX G (c.fact 125 rfl)
    v_LONGEST_NAME := He.int_ok KX G (c.fact 126 rfl)
    v_LONGEST_NUMBER := He.int_ok KX G (c.fact 127 rfl)
    v_NAME := He.str_ok KX G (c.fact 128 rfl)
    v_NUMBER := He.str_ok KX G (c.fact 129 rfl)
    v_END := He.str_ok KX G (c.fact 130 rfl)
    v_FEWEST_CELLS := He.int_ok KX G (c.fact 131 rfl)
    v_MOST_CELLS := He.int_ok KX G (c.fact 132 rfl)
    v_MOST_BOXES := He.int_ok KX G (c.fact 133 rfl)
    v_MOST_STEPS := He.int_ok KX G (c.fact 134 rfl)
    g_REASONS := He.glo_ok KX G (c.fact 135 rfl)
    v_BLOCKED := He.str_ok KX G (c.fact 136 rfl)
    t_ROBOTS := He.tupB_ok e0
    t_SIGNS := He.tupB_ok e1
    t_JUMPS := He.tupB_ok e2
    t_COMMANDS := He.tupB_ok e3
    t_KEYWORDS := He.tupB_ok e4
    t_REASONS := He.tupB_ok e5
    F__wall := c.def_ 0 (d := d__wall) rfl
    F_SyntaxFault_init := c.def_ 1 (d := d_SyntaxFault_init) rfl
    F_CheckFault_init := c.def_ 2 (d := d_CheckFault_init) rfl
    F_Token_init := c.def_ 3 (d := d_Token_init) rfl
    F_read_tokens := c.def_ 4 (d := d_read_tokens) rfl
    F_read_row := c.def_ 5 (d := d_read_row) rfl
    F_longest_text := c.def_ 6 (d := d_longest_text) rfl
    F_kind_of := c.def_ 7 (d := d_kind_of) rfl
    F_is_valid_number := c.def_ 8 (d := d_is_valid_number) rfl
    F_PlanTokens_init := c.def_ 9 (d := d_PlanTokens_init) rfl
    F_RobotTokens_init := c.def_ 10 (d := d_RobotTokens_init) rfl
    F_StepTokens_init := c.def_ 11 (d := d_StepTokens_init) rfl
    F_StepTokens_first := c.def_ 12 (d := d_StepTokens_first) rfl
    F_Parser_init := c.def_ 13 (d := d_Parser_init) rfl
    F_Parser_next_kind := c.def_ 14 (d := d_Parser_next_kind) rfl
    F_Parser_take := c.def_ 15 (d := d_Parser_take) rfl
    F_Parser_take_plan := c.def_ 16 (d := d_Parser_take_plan) rfl
    F_Parser_take_robot := c.def_ 17 (d := d_Parser_take_robot) rfl
    F_Parser_take_step := c.def_ 18 (d := d_Parser_take_step) rfl
    F_parse_plan := c.def_ 19 (d := d_parse_plan) rfl
    F_Plan_init := c.def_ 20 (d := d_Plan_init) rfl
    F_read_plan := c.def_ 21 (d := d_read_plan) rfl
    F_linked_plan := c.def_ 22 (d := d_linked_plan) rfl
    F_plans_with_all_starts := c.def_ 23 (d := d_plans_with_all_starts) rfl
    F_linked_steps := c.def_ 24 (d := d_linked_steps) rfl
    F_first_labels := c.def_ 25 (d := d_first_labels) rfl
    F_check_plan := c.def_ 26 (d := d_check_plan) rfl
    F_fault_at := c.def_ 27 (d := d_fault_at) rfl
    F_shelf_faults := c.def_ 28 (d := d_shelf_faults) rfl
    F_start_faults := c.def_ 29 (d := d_start_faults) rfl
    F_step_faults := c.def_ 30 (d := d_step_faults) rfl
    F_beginning := c.def_ 31 (d := d_beginning) rfl
    F_Situation_init := c.def_ 32 (d := d_Situation_init) rfl
    F_Situation_frozen := c.def_ 33 (d := d_Situation_frozen) rfl
    F_Situation_pass_tick := c.def_ 34 (d := d_Situation_pass_tick) rfl
    F_Situation_do_step := c.def_ 35 (d := d_Situation_do_step) rfl
    F_Situation_try_step := c.def_ 36 (d := d_Situation_try_step) rfl
    F_Situation_try_move := c.def_ 37 (d := d_Situation_try_move) rfl
    F_Situation_try_pick := c.def_ 38 (d := d_Situation_try_pick) rfl
    F_Situation_try_put := c.def_ 39 (d := d_Situation_try_put) rfl
    F_Situation_is_jumping := c.def_ 40 (d := d_Situation_is_jumping) rfl
    F_Run_init := c.def_ 41 (d := d_Run_init) rfl
    F_Run_kept_tick := c.def_ 42 (d := d_Run_kept_tick) rfl
    F_Run_situation_before := c.def_ 43 (d := d_Run_situation_before) rfl
    F_Run_words_in := c.def_ 44 (d := d_Run_words_in) rfl
    F_Run_is_stuck := c.def_ 45 (d := d_Run_is_stuck) rfl
    F_free_starts := c.def_ 46 (d := d_free_starts) rfl
    F_is_free := c.def_ 47 (d := d_is_free) rfl
    F__law_random := c.def_ 48 (d := d__law_random) rfl
    F__law_below := c.def_ 49 (d := d__law_below) rfl
    F__law_steps := c.def_ 50 (d := d__law_steps) rfl
    F__law_repeats := c.def_ 51 (d := d__law_repeats) rfl
    F__law_plan := c.def_ 52 (d := d__law_plan) rfl
    F__law_stuck := c.def_ 53 (d := d__law_stuck) rfl
    F__law_empty := c.def_ 54 (d := d__law_empty) rfl
    F__law_act := c.def_ 55 (d := d__law_act) rfl
    F__law_tick := c.def_ 56 (d := d__law_tick) rfl
    F__law_cycle := c.def_ 57 (d := d__law_cycle) rfl
    F__law_text := c.def_ 58 (d := d__law_text) rfl
    F__law_equal := c.def_ 59 (d := d__law_equal) rfl
    F_law := c.def_ 60 (d := d_law) rfl
    bm_Parser_take := ⟨He.meth_ok (c.fact 48 rfl), He.eqO_ok (He.ba e6).1, of_decide_eq_true (He.ba (He.ba e6).2).1, by decide +kernel, (He.ba (He.ba e6).2).2⟩
    x_SyntaxFault := oexB_ok e7
    i_SyntaxFault := He.eqO_ok e8
    ti_SyntaxFault := of_decide_eq_true e9
    na_SyntaxFault_column := He.eqO_ok e10
    na_SyntaxFault_line := He.eqO_ok e11
    rd_BotError := binitB_ok e12
    x_CheckFault := oexB_ok e13
    i_CheckFault := He.eqO_ok e14
    ti_CheckFault := of_decide_eq_true e15
    na_CheckFault_column := He.eqO_ok e16
    na_CheckFault_line := He.eqO_ok e17
    na_CheckFault_reason := He.eqO_ok e
  }
end SB

set_option maxHeartbeats 4000000
namespace SB
open PySem PySem.Spec PyProof.Rows L2
open TL (tl)
/-! ### how data stand in the heap -/
/-- an __init__ that stores its arguments -/
def spInit (C : Addr) (g : List V → Option (List (Str × V))) : Sp := fun vs H Q _ => ∃ p dx us fs, vs = .ref p :: us ∧ g us = some fs ∧ H p = some (.ins C dx []) ∧
  ∀ H' : Hp, H' p = some (.ins C dx fs) → (∀ b o, H b = some o → b ≠ p → H' b = some o) → Q .non H'
theorem init_made {C : Addr} {g : List V → Option (List (Str × V))} {us : List V} {fs : List (Str × V)} {H1 : Hp} {Q : VK} {E : XK} (h : g us = some fs)
    (k : ∀ (x dx : Addr) (H2 : Hp), H1 x = none → Same H1 H2 → H2 x = some (.ins C dx fs) → Q (.ref x) H2) :
    ∀ x dx, H1 x = Option.none → H1 dx = Option.none → dx ≠ x → spInit C g (V.ref x :: us) (upd (upd H1 dx (.own x)) x (.ins C dx [])) (fun v H2 => v = .non ∧ Q (.ref x) H2) E := fun x dx nx ndx ne =>
  ⟨x, dx, us, fs, rfl, h, upd_same, fun H' e kp => ⟨rfl, k x dx H' nx (fun b o q => kp b o (by rw [upd_ne (ne_of_none q nx), upd_ne (ne_of_none q ndx)]; exact q) (ne_of_none q nx)) e⟩⟩
def big : Nat := 1000000
theorem big_line {n : Nat} (h : n ≤ big) : n ≤ sizeLine := Nat.le_trans h (by decide)
theorem big_lt {n : Nat} (h : n ≤ big) : n < sizeLine := Nat.lt_of_le_of_lt h (by decide)
def tkF (t : Tk) : List (Str × V) := [("kind", .str t.kind), ("text", .str t.text), ("line", .int t.line), ("column", .int t.col)]
def TokAt (K : PySem.W.Frag) (H : Hp) (v : V) (t : Tk) : Prop := ∃ a dx, v = .ref a ∧ H a = some (.ins (He.ga K "Token") dx (tkF t))
theorem TokAt.mono {K : PySem.W.Frag} {H H' : Hp} {v : V} {t : Tk} (e : Same H H') (h : TokAt K H v t) : TokAt K H' v t := by
  obtain ⟨a, dx, e1, e2⟩ := h
  exact ⟨a, dx, e1, e _ _ e2⟩
theorem TokAt.put {K : PySem.W.Frag} {H : Hp} {v : V} {t : Tk} {p : Addr} {xs ys : List V} (hp : H p = some (.lst xs)) (h : TokAt K H v t) : TokAt K (upd H p (.lst ys)) v t := by
  obtain ⟨a, dx, e1, e2⟩ := h
  refine ⟨a, dx, e1, ?_⟩
  rw [upd_ne (ne_of e2 hp (by intro z; cases z))]
  exact e2
/-- a list of things, each told by R -/
def All {α : Type} (R : V → α → Prop) : List V → List α → Prop := Paired R
theorem All.imp {α : Type} {R S : V → α → Prop} {vs : List V} {xs : List α} (h : All R vs xs) (i : ∀ v x, R v x → S v x) : All S vs xs := Paired.mapP h i
theorem All.app {α : Type} {R : V → α → Prop} : ∀ {vs ws : List V} {xs ys : List α}, All R vs xs → All R ws ys → All R (vs ++ ws) (xs ++ ys)
  | _, _, _, _, .nil, s => s
  | _, _, _, _, .cons r t, s => .cons r (All.app t s)
theorem All.len {α : Type} {R : V → α → Prop} {vs : List V} {xs : List α} (h : All R vs xs) : vs.length = xs.length := Paired.length h
theorem All.get {α : Type} {R : V → α → Prop} : ∀ {vs : List V} {xs : List α} {i : Nat} {x : α}, All R vs xs → xs[i]? = some x → ∃ v, vs[i]? = some v ∧ R v x
  | _, _, _, _, .nil, e => by simp at e
  | _, _, 0, _, .cons r _, e => by simp at e; subst e; exact ⟨_, rfl, r⟩
  | _, _, i + 1, x, .cons _ t, e => by
    obtain ⟨u, h1, h2⟩ := All.get (i := i) (x := x) t (by simpa using e)
    exact ⟨u, by simpa using h1, h2⟩
theorem All.getV {α : Type} {R : V → α → Prop} : ∀ {vs : List V} {xs : List α} {i : Nat} {v : V}, All R vs xs → vs[i]? = some v → ∃ x, xs[i]? = some x ∧ R v x
  | _, _, _, _, .nil, e => by simp at e
  | _, _, 0, _, .cons r _, e => by simp at e; subst e; exact ⟨_, rfl, r⟩
  | _, _, i + 1, x, .cons _ t, e => by
    obtain ⟨u, h1, h2⟩ := All.getV (i := i) (v := x) t (by simpa using e)
    exact ⟨u, by simpa using h1, h2⟩
/-- a list at v that stands by itself (it may be extended), of things told by R -/
def LAt {α : Type} (H : Hp) (R : V → α → Prop) (v : V) (xs : List α) : Prop := ∃ a vs, v = .ref a ∧ H a = some (.lst vs) ∧ All R vs xs
/-- what is new in H' -/
def nw (H H' : Hp) : Hp := fun a => if H a = none then H' a else none
theorem nw_of {H H' : Hp} {a : Addr} {o : HO} (h : H a = none) (h' : H' a = some o) : nw H H' a = some o := by
  unfold nw
  rw [if_pos h]
  exact h'
theorem nw_is {H H' : Hp} {a : Addr} {o : HO} (h : nw H H' a = some o) : H a = none ∧ H' a = some o := by
  unfold nw at h
  split at h
  · rename_i q
    exact ⟨q, h⟩
  · cases h
theorem nw_upd {H H' : Hp} {p : Addr} {o : HO} (h : H p = none) : nw H (upd H' p o) = upd (nw H H') p o := by
  funext a
  by_cases c : a = p
  · rw [c, upd_same, nw_of h upd_same]
  · rw [upd_ne c]
    unfold nw
    split
    · rw [upd_ne c]
    · rfl
end SB

set_option maxHeartbeats 4000000
namespace SB
open PySem PySem.Spec PyProof.Rows L2 Evl
open TL (tl)
theorem ex_same {H H' : Hp} (e : Ex H H') : Same H H' := e
section
variable {K : PySem.W.Frag} {σ : L2.St} {H H' : Hp} {ta tb te tx : TE} {t u : TT} {x y z v : V} {r : R2} {E : XK}
/-- one sign in a text -/
theorem rv_inS {c : Nat} {w : Str} : RV (fun x y H Q => ∃ (c : Nat) (z : Str), x = V.str ⟨#[c]⟩ ∧ y = V.str z ∧ Q (.bl (decide (c ∈ z.cps.toList))) H) (.str ⟨#[c]⟩) (.str w) H (.bl (decide (c ∈ w.cps.toList))) :=
  fun H1 _ _ q => ⟨c, w, rfl, rfl, q H1 (Ex.refl H1)⟩
theorem ev_lenS {w : Str} (ha : Ev ta σ H (.str w)) (hl : w.length ≤ sizeLine) : Ev (tCB (fun xs H Q => ∃ z, xs = [V.str z] ∧ z.length ≤ sizeLine ∧ Q (V.int z.length) H) (tCons ta tNil)) σ H (.int w.length) :=
  fun H1 e Q q => ha H1 e _ fun H2 e2 => ⟨w, rfl, hl, q H2 e2⟩
theorem rv_ixS' {w : Str} {i : Nat} {c : Nat} (h : w.length ≤ sizeLine) (ha : (tl w)[i]? = some c) : RV rIxS (.str w) (.int i) H (.str ⟨#[c]⟩) := fun H1 _ _ q => by
  refine ⟨w, i, c, rfl, rfl, h, ?_, q H1 (Ex.refl H1)⟩
  unfold atI
  have hi : i < w.cps.toList.length := (List.getElem?_eq_some_iff.mp ha).1
  rw [ixN_nat hi]
  exact ha
/-- a call by its positional promise -/
theorem ev_callR {sp : Sp} {vs : List V} {t : TA} (h : EvA t σ H vs) (hs : ∀ H1, Ex H H1 → ∀ Q : VK, (∀ H2, Ex H1 H2 → Q z H2) → sp vs H1 Q E) : Ev (tCallR sp E t) σ H z := fun H1 e Q q =>
  h H1 e _ fun H2 e2 => hs H2 (e.trans e2) Q fun H3 e3 => q H3 (e2.trans e3)
theorem ev_fld {a C dx : Addr} {fs : List (Str × V)} {f : Str} (ha : Ev ta σ H (.ref a)) (ho : H a = some (.ins C dx fs)) (hc : Cls K C) (hn : NoAttr K C f) (hl : fs.lookup f = some v) : Ev (tFld K ta f) σ H v := fun H1 e Q q =>
  ha H1 e _ fun H2 e2 => ⟨a, C, dx, fs, v, rfl, e2 _ _ (e _ _ ho), hc, hn, hl, q H2 e2⟩
/-- what an expression gives, told by P -/
def EvP (te : TE) (σ : L2.St) (H : Hp) (P : V → Hp → Prop) : Prop := ∀ H1, Ex H H1 → ∀ Q : VK, (∀ v H2, Ex H1 H2 → P v H2 → Q v H2) → te σ H1 Q
theorem Ev.p {P : V → Hp → Prop} (h : Ev te σ H v) (hp : ∀ H1, Ex H H1 → P v H1) : EvP te σ H P := fun H1 e Q q => h H1 e Q fun H2 e2 => q v H2 e2 (hp H2 (e.trans e2))
theorem EvP.mono {P : V → Hp → Prop} (e : Ex H H') (h : EvP te σ H P) : EvP te σ H' P := fun H1 a Q q => h H1 (e.trans a) Q q
theorem ep_callR {sp : Sp} {vs : List V} {t : TA} {P : V → Hp → Prop} (h : EvA t σ H vs) (hs : ∀ H1, Ex H H1 → ∀ Q : VK, (∀ v H2, Ex H1 H2 → P v H2 → Q v H2) → sp vs H1 Q E) : EvP (tCallR sp E t) σ H P := fun H1 e Q q =>
  h H1 e _ fun H2 e2 => hs H2 (e.trans e2) Q fun v H3 e3 hp => q v H3 (e2.trans e3) hp
/-- a new instance by an __init__ that stores its arguments -/
theorem ep_make {C : Addr} {g : List V → Option (List (Str × V))} {us : List V} {fs : List (Str × V)} {t : TA} {P : V → Hp → Prop} (h : EvA t σ H us) (hg : g us = some fs)
    (hp : ∀ (x dx : Addr) (H2 : Hp), Ex H H2 → H2 x = some (.ins C dx fs) → P (.ref x) H2) : EvP (StX.tMakeR C (spInit C g) E t) σ H P := fun H1 e Q q =>
  h H1 e _ fun H2 e2 => init_made hg fun x dx H3 nx s3 ho => q _ H3 (e2.trans s3) (hp x dx H3 ((e.trans e2).trans s3) ho)
theorem ep_makeN {C : Addr} {g : List V → Option (List (Str × V))} {us : List V} {fs : List (Str × V)} {t : TA} {P : V → Hp → Prop} (h : EvA t σ H us) (hg : g us = some fs)
    (hp : ∀ (x dx : Addr) (H2 : Hp), H x = none → Ex H H2 → H2 x = some (.ins C dx fs) → P (.ref x) H2) : EvP (StX.tMakeR C (spInit C g) E t) σ H P := fun H1 e Q q =>
  h H1 e _ fun H2 e2 => init_made hg fun x dx H3 nx s3 ho => q _ H3 (e2.trans s3) (hp x dx H3 (fresh_back (e.trans e2) nx) ((e.trans e2).trans s3) ho)
theorem nw_ex {H H1 H2 : Hp} (e : Ex H1 H2) : Ex (nw H H1) (nw H H2) := fun a o h => by
  obtain ⟨h1, h2⟩ := nw_is h
  exact nw_of h1 (e a o h2)
theorem nw_all {H H1 : Hp} (e : Ex H H1) : Ex (nw H H1) H1 := fun a o h => (nw_is h).2
/-- what is new after a while is new -/
theorem nw_later {H H1 H2 : Hp} (e : Ex H H1) : Ex (nw H1 H2) (nw H H2) := fun a o h => by
  obtain ⟨h1, h2⟩ := nw_is h
  exact nw_of (fresh_back e h1) h2
variable {D : Ends} {tu tw tz : TS} {P : V → Hp → Prop}
theorem s_asgP {i : Nat} (h : EvP te σ H P) (k : ∀ v H1, Ex H H1 → P v H1 → D.nx (σ.set i (some v)) H1) : tAsg te (gName i) D σ H := h H (Ex.refl H) _ fun v H1 e p => k v H1 e p
theorem q_asgP {i : Nat} (h : EvP te σ H P) (k : ∀ v H1, Ex H H1 → P v H1 → tz D (σ.set i (some v)) H1) : tSeq (tAsg te (gName i)) tz D σ H := s_asgP (D := { D with nx := tz D }) h k
theorem s_retP (h : EvP te σ H P) (k : ∀ v H1, Ex H H1 → P v H1 → D.rt v H1) : tRet te D σ H := h H (Ex.refl H) _ k
theorem s_dropP (h : EvP te σ H P) (k : ∀ v H1, Ex H H1 → P v H1 → D.nx σ H1) : tDrop te D σ H := h H (Ex.refl H) _ k
theorem q_dropP (h : EvP te σ H P) (k : ∀ v H1, Ex H H1 → P v H1 → tz D σ H1) : tSeq (tDrop te) tz D σ H := s_dropP (D := { D with nx := tz D }) h k
/-- xs.append(e), e told by P -/
theorem s_appP {l : Addr} {xs : List V} (hl : H l = some (.lst xs)) (ha : Ev ta σ H (.ref l)) (h : EvP te σ H P) (hz : xs.length < sizeLine) (k : ∀ v H1, Ex H H1 → P v H1 → D.nx σ (upd H1 l (.lst (xs ++ [v])))) :
    tDrop (tBM K "list" rAppend ta (tCons te tNil)) D σ H := ha H (Ex.refl H) _ fun H1 e1 =>
  ⟨Or.inl ⟨rfl, xs, sq_of (e1 l _ hl)⟩, h H1 e1 _ fun v H2 e2 p => ⟨l, xs, v, rfl, rfl, e2 l _ (e1 l _ hl), hz, k v H2 (e1.trans e2) p⟩⟩
theorem q_appP {l : Addr} {xs : List V} (hl : H l = some (.lst xs)) (ha : Ev ta σ H (.ref l)) (h : EvP te σ H P) (hz : xs.length < sizeLine) (k : ∀ v H1, Ex H H1 → P v H1 → tz D σ (upd H1 l (.lst (xs ++ [v])))) :
    tSeq (tDrop (tBM K "list" rAppend ta (tCons te tNil))) tz D σ H := s_appP (D := { D with nx := tz D }) hl ha h hz k
/-- arguments of which one is told by P -/
def EvAP (ta : TA) (σ : L2.St) (H : Hp) (P : List V → Hp → Prop) : Prop := ∀ H1, Ex H H1 → ∀ Q : List V → Hp → Prop, (∀ vs H2, Ex H1 H2 → P vs H2 → Q vs H2) → ta σ H1 Q
theorem ap_nil {P : List V → Hp → Prop} (hp : ∀ H1, Ex H H1 → P [] H1) : EvAP tNil σ H P := fun H1 e Q q => q [] H1 (Ex.refl H1) (hp H1 e)
theorem ap_cons {P : V → Hp → Prop} {R : List V → Hp → Prop} {tr : TA} (h : EvP te σ H P) (hr : ∀ v H1, Ex H H1 → P v H1 → EvAP tr σ H1 (fun vs H2 => R (v :: vs) H2)) : EvAP (tCons te tr) σ H R := fun H1 e Q q =>
  h H1 e _ fun v H2 e2 p => hr v H2 (e.trans e2) p H2 (Ex.refl H2) _ fun vs H3 e3 p3 => q (v :: vs) H3 (e2.trans e3) p3
theorem ap_of {vs : List V} {ta : TA} (h : EvA ta σ H vs) : EvAP ta σ H (fun ws _ => ws = vs) := fun H1 e Q q => h H1 e _ fun H2 e2 => q vs H2 e2 rfl
theorem ep_callRP {sp : Sp} {t : TA} {P : V → Hp → Prop} {R : List V → Hp → Prop} (h : EvAP t σ H R) (hs : ∀ vs H1, Ex H H1 → R vs H1 → ∀ Q : VK, (∀ v H2, Ex H1 H2 → P v H2 → Q v H2) → sp vs H1 Q E) : EvP (tCallR sp E t) σ H P := fun H1 e Q q =>
  h H1 e _ fun vs H2 e2 r => hs vs H2 (e.trans e2) r Q fun v H3 e3 hp => q v H3 (e2.trans e3) hp
theorem ep_makeP {C : Addr} {g : List V → Option (List (Str × V))} {R : List V → Hp → Prop} {t : TA} {P : V → Hp → Prop} (h : EvAP t σ H R)
    (hp : ∀ us H1, Ex H H1 → R us H1 → ∃ fs, g us = some fs ∧ ∀ (x dx : Addr) (H2 : Hp), Ex H1 H2 → H2 x = some (.ins C dx fs) → P (.ref x) H2) : EvP (StX.tMakeR C (spInit C g) E t) σ H P := fun H1 e Q q =>
  h H1 e _ fun us H2 e2 r => by
    obtain ⟨fs, hg, hp⟩ := hp us H2 (e.trans e2) r
    exact init_made hg fun x dx H3 nx s3 ho => q _ H3 (e2.trans s3) (hp x dx H3 s3 ho)
/-- a slice of a text -/
theorem ev_slS {tl_ th : TO} {w : Str} {lo hi : Option Int} (h : Ev te σ H (.str w)) (h1 : EvO tl_ σ H lo) (h2 : EvO th σ H hi) (hl : w.length ≤ sizeLine) : Ev (tSl rSlS te tl_ th) σ H (.str (cutS w lo hi)) := fun H1 e Q q =>
  h H1 e _ fun H2 e2 => h1 H2 (e.trans e2) _ fun H3 e3 => h2 H3 ((e.trans e2).trans e3) _ fun H4 e4 => ⟨w, rfl, hl, q H4 ((e2.trans e3).trans e4)⟩
theorem et_tru {b : Bool} (h : Ev te σ H v) (ht : ∀ H1, Ex H H1 → TruV K v H1 b) : EvT (fun σ H Q => te σ H fun x H' => ∃ k, TruV K x H' k ∧ Q k H') σ H b := fun H1 e Q q =>
  h H1 e _ fun H2 e2 => ⟨b, ht H2 (e.trans e2), q H2 e2⟩
/-- a for over a new tuple -/
theorem s_forNU {xs : List V} {tl_ : TE} {g : TG} (h : EvU tl_ σ H xs) (Pv : Addr → Nat → L2.St → Hp → Prop) (h0 : ∀ p H1, H p = none → Ex H H1 → H1 p = some (.tup xs) → Pv p 0 σ H1) (hl : ∀ p i σ' H', i ≤ xs.length → Pv p i σ' H' → SqT K H' p xs)
    (hs : ∀ p i x σ' H', xs[i]? = some x → Pv p i σ' H' → g x σ' H' fun σ2 H2 => tu { D with nx := Pv p (i + 1), ct := Pv p (i + 1), bk := D.nx } σ2 H2) (hd : ∀ p σ' H', Pv p xs.length σ' H' → D.nx σ' H') : tFor (iTup K tl_) g tu D σ H :=
  h H (Ex.refl H) _ fun p H1 hp e h1 => ⟨p, rfl, ⟨xs, st_of h1⟩, for_tup (Pv p) (h0 p H1 hp e h1) (hl p) (hs p) (hd p)⟩
theorem q_forNU {xs : List V} {tl_ : TE} {g : TG} (h : EvU tl_ σ H xs) (Pv : Addr → Nat → L2.St → Hp → Prop) (h0 : ∀ p H1, H p = none → Ex H H1 → H1 p = some (.tup xs) → Pv p 0 σ H1) (hl : ∀ p i σ' H', i ≤ xs.length → Pv p i σ' H' → SqT K H' p xs)
    (hs : ∀ p i x σ' H', xs[i]? = some x → Pv p i σ' H' → g x σ' H' fun σ2 H2 => tu { D with nx := Pv p (i + 1), ct := Pv p (i + 1), bk := tz D } σ2 H2) (hd : ∀ p σ' H', Pv p xs.length σ' H' → tz D σ' H') : tSeq (tFor (iTup K tl_) g tu) tz D σ H :=
  s_forNU (D := { D with nx := tz D }) h Pv h0 hl hs hd
/-- for i, x in enumerate(xs) -/
theorem s_forEnum {ta : TA} {a : Addr} {xs : List V} {j1 j2 n : Nat} (h : EvA ta σ H [.ref a]) (hx : SqL K H a xs) (hn : 2 = n) (Pv : Nat → L2.St → Hp → Prop) (h0 : ∀ H1, Ex H H1 → Pv 0 σ H1) (hl : ∀ i σ' H', i ≤ xs.length → Pv i σ' H' → SqL K H' a xs)
    (hs : ∀ (i : Nat) x σ' H' H2, xs[i]? = some x → Pv i σ' H' → Ex H' H2 → tu { D with nx := Pv (i + 1), ct := Pv (i + 1), bk := D.nx } ((σ'.set j1 (some (.int (i : Int)))).set j2 (some x)) H2) (hd : ∀ σ' H', Pv xs.length σ' H' → D.nx σ' H') :
    tFor (iEnum K ta) (gTup K n (gCons (gName j1) (gCons (gName j2) gNil))) tu D σ H :=
  h H (Ex.refl H) _ fun H1 e => ⟨a, xs, rfl, ex_l e hx, for_it walk_enum Pv (h0 H1 e) hl (fun i v σ' H' H2 hi p y => by
    obtain ⟨T, x, y, rfl, hT, rfl, ex, ey⟩ := y
    obtain rfl : V.int (i : Int) = x := Option.some.inj ex
    exact ⟨T, [.int (i : Int), y], rfl, st_of upd_same, hn, _, _, rfl, _, _, rfl, rfl, hs i y σ' H' _ ey p (Ex.new hT)⟩) hd⟩
theorem q_forEnum {ta : TA} {a : Addr} {xs : List V} {j1 j2 n : Nat} (h : EvA ta σ H [.ref a]) (hx : SqL K H a xs) (hn : 2 = n) (Pv : Nat → L2.St → Hp → Prop) (h0 : ∀ H1, Ex H H1 → Pv 0 σ H1) (hl : ∀ i σ' H', i ≤ xs.length → Pv i σ' H' → SqL K H' a xs)
    (hs : ∀ (i : Nat) x σ' H' H2, xs[i]? = some x → Pv i σ' H' → Ex H' H2 → tu { D with nx := Pv (i + 1), ct := Pv (i + 1), bk := tz D } ((σ'.set j1 (some (.int (i : Int)))).set j2 (some x)) H2) (hd : ∀ σ' H', Pv xs.length σ' H' → tz D σ' H') :
    tSeq (tFor (iEnum K ta) (gTup K n (gCons (gName j1) (gCons (gName j2) gNil))) tu) tz D σ H := s_forEnum (D := { D with nx := tz D }) h hx hn Pv h0 hl hs hd
/-- xs.extend(e), e a list of its own -/
theorem s_extP {l : Addr} {xs : List V} (hl : H l = some (.lst xs)) (ha : Ev ta σ H (.ref l)) (h : EvP te σ H P) (k : ∀ v H1, Ex H H1 → P v H1 → ∃ b ys, v = .ref b ∧ H1 b = some (.lst ys) ∧ xs.length + ys.length ≤ sizeLine ∧ D.nx σ (upd H1 l (.lst (xs ++ ys)))) :
    tDrop (tBM K "list" rExtend ta (tCons te tNil)) D σ H := ha H (Ex.refl H) _ fun H1 e1 =>
  ⟨Or.inl ⟨rfl, xs, sq_of (e1 l _ hl)⟩, h H1 e1 _ fun v H2 e2 p => by
    obtain ⟨b, ys, rfl, hb, hz, q⟩ := k v H2 (e1.trans e2) p
    exact ⟨l, b, xs, ys, rfl, rfl, e2 l _ (e1 l _ hl), hb, hz, q⟩⟩
theorem q_extP {l : Addr} {xs : List V} (hl : H l = some (.lst xs)) (ha : Ev ta σ H (.ref l)) (h : EvP te σ H P) (k : ∀ v H1, Ex H H1 → P v H1 → ∃ b ys, v = .ref b ∧ H1 b = some (.lst ys) ∧ xs.length + ys.length ≤ sizeLine ∧ tz D σ (upd H1 l (.lst (xs ++ ys)))) :
    tSeq (tDrop (tBM K "list" rExtend ta (tCons te tNil))) tz D σ H := s_extP (D := { D with nx := tz D }) hl ha h k
/-- s.split(sep) -/
theorem el_split {a b : Str} (h : Ev ta σ H (.str a)) (h2 : Ev tb σ H (.str b)) (hb : (b.length == 0) = false) (hz : a.length + 2 ≤ sizeLine) :
    EvL (tM1 (fun x xs H Q => ∃ a b, x = V.str a ∧ xs = [V.str b] ∧ (b.length == 0) = false ∧ a.length + 2 ≤ sizeLine ∧ rNewStrs (Txt.split a b) H Q) ta tb) σ H ((Txt.split a b).map V.str) := fun H1 e Q q =>
  h H1 e _ fun H2 e2 => ⟨⟨a, rfl⟩, h2 H2 (e.trans e2) _ fun H3 e3 => ⟨a, b, rfl, rfl, hb, hz, fun p hp => q p _ (fresh_back (e2.trans e3) hp) ((e2.trans e3).trans (Ex.new hp)) upd_same⟩⟩
theorem ev_isStr {a : Str} (h : Ev ta σ H (.str a)) : Ev (tCB (rIsi K) (tCons ta (tCons (tC (.ty "str")) tNil))) σ H (.bl true) := fun H1 e Q q =>
  h H1 e _ fun H2 e2 => ⟨.str a, .ty "str", .type "str", .type "str", true, rfl, .ty "str", .base (.str a), kit_ty (by decide +kernel), q H2 e2⟩
theorem q_setH {i : Nat} (h : te σ H fun v H1 => tz D (σ.set i (some v)) H1) : tSeq (tAsg te (gName i)) tz D σ H := h
theorem s_setH {i : Nat} (h : te σ H fun v H1 => D.nx (σ.set i (some v)) H1) : tAsg te (gName i) D σ H := h
theorem q_dropH (h : te σ H fun _ H1 => tz D σ H1) : tSeq (tDrop te) tz D σ H := h
theorem s_dropH (h : te σ H fun _ H1 => D.nx σ H1) : tDrop te D σ H := h
theorem s_retH (h : te σ H fun v H1 => D.rt v H1) : tRet te D σ H := h
theorem s_appH {l : Addr} {xs : List V} {i : Nat} (hv : σ[i]? = some (some (.ref l))) (hl : H l = some (.lst xs)) (h : te σ H fun v H2 => ∃ ys, H2 l = some (.lst ys) ∧ ys.length < sizeLine ∧ D.nx σ (upd H2 l (.lst (ys ++ [v])))) :
    tDrop (tBM K "list" rAppend (tVar i) (tCons te tNil)) D σ H := ⟨.ref l, hv, Or.inl ⟨rfl, xs, sq_of hl⟩, by
  have conv : ∀ v H2, (∃ ys, H2 l = some (.lst ys) ∧ ys.length < sizeLine ∧ D.nx σ (upd H2 l (.lst (ys ++ [v])))) → (tNil σ H2 fun vs H3 => rAppend (.ref l) (v :: vs) H3 fun _ H4 => D.nx σ H4) :=
    fun v H2 ⟨ys, h1, h2, h3⟩ => ⟨l, ys, v, rfl, rfl, h1, h2, h3⟩
  rw [show (fun v H2 => ∃ ys, H2 l = some (HO.lst ys) ∧ ys.length < sizeLine ∧ D.nx σ (upd H2 l (.lst (ys ++ [v])))) = (fun v H2 => tNil σ H2 fun vs H3 => rAppend (.ref l) (v :: vs) H3 fun _ H4 => D.nx σ H4) from by
    funext v H2
    apply propext
    refine ⟨conv v H2, fun ⟨l', ys, v', e1, e2, h1, h2, h3⟩ => ?_⟩
    cases e1
    cases e2
    exact ⟨ys, h1, h2, h3⟩] at h
  exact h⟩
theorem s_lst1H {i : Nat} (h : te σ H fun v H1 => ∀ p, H1 p = none → D.nx (σ.set i (some (.ref p))) (upd H1 p (.lst [v]))) : tAsg (tLst (tCons te tNil)) (gName i) D σ H := by
  rw [show (fun v H1 => ∀ p, H1 p = none → D.nx (σ.set i (some (.ref p))) (upd H1 p (.lst [v]))) = (fun v H1 => tNil σ H1 fun vs H2 => (v :: vs).length ≤ sizeLine ∧ ∀ p, H2 p = none → D.nx (σ.set i (some (.ref p))) (upd H2 p (.lst (v :: vs)))) from by
    funext v H1
    apply propext
    exact ⟨fun h => ⟨by show 1 ≤ sizeLine; decide, h⟩, fun h => h.2⟩] at h
  exact h
theorem q_lst1H {i : Nat} (h : te σ H fun v H1 => ∀ p, H1 p = none → tz D (σ.set i (some (.ref p))) (upd H1 p (.lst [v]))) : tSeq (tAsg (tLst (tCons te tNil)) (gName i)) tz D σ H := s_lst1H (D := { D with nx := tz D }) h
theorem ev_intS {a : Str} {n : Int} (h : Ev ta σ H (.str a)) (hn : PySem.intText? a = some n) (hl : a.length ≤ 640) : Ev (tCB (fun xs H Q => ∃ a n, xs = [V.str a] ∧ PySem.intText? a = some n ∧ a.length ≤ 640 ∧ Q (V.int n) H) (tCons ta tNil)) σ H (.int n) := fun H1 e Q q =>
  h H1 e _ fun H2 e2 => ⟨a, n, rfl, hn, hl, q H2 e2⟩
theorem rv_isN {x : V} : RV (fun x y H Q => y = V.non ∧ Q (.bl (decide (x = V.non))) H) x .non H (.bl (decide (x = V.non))) := fun H1 _ _ q => ⟨rfl, q H1 (Ex.refl H1)⟩
theorem rv_noN {x : V} : RV (fun x y H Q => y = V.non ∧ Q (.bl (!decide (x = V.non))) H) x .non H (.bl (!decide (x = V.non))) := fun H1 _ _ q => ⟨rfl, q H1 (Ex.refl H1)⟩
theorem ev_dget {d : Addr} {m : List (Key × V)} {z : Str} (ha : Ev ta σ H (.ref d)) (hb : Ev tb σ H (.str z)) (hd : H d = some (.dK m)) (hv : valV m (.inr z : Key) = some v) : Ev (tDGet ta tb) σ H v := fun H1 e Q q =>
  ha H1 e _ fun H2 e2 => hb H2 (e.trans e2) _ fun H3 e3 => ⟨d, v, rfl, .inl ⟨m, .inr z, .inl (((e.trans e2).trans e3) _ _ hd), rfl, hv.symm⟩, q H3 (e2.trans e3)⟩
theorem ev_dnin {d : Addr} {m : List (Key × V)} {z : Str} (ha : Ev ta σ H (.str z)) (hb : Ev tb σ H (.ref d)) (hd : H d = some (.dK m)) : Ev (tDNotIn ta tb) σ H (.bl (!(valV m (.inr z : Key)).isSome)) := fun H1 e Q q =>
  ha H1 e _ fun H2 e2 => hb H2 (e.trans e2) _ fun H3 e3 => ⟨d, _, rfl, .inl ⟨m, .inr z, .inl (((e.trans e2).trans e3) _ _ hd), rfl, rfl⟩, q H3 (e2.trans e3)⟩
theorem et_yes : EvT (fun (_ : L2.St) H Q => Q true H) σ H true := fun H1 _ _ q => q H1 (Ex.refl H1)
theorem q_unl2 {i j n : Nat} (h : EvL te σ H [x, y]) (hn : 2 = n) (k : ∀ H1, Ex H H1 → tz D ((σ.set i (some x)).set j (some y)) H1) : tSeq (tAsg te (gUnl K n (gCons (gName i) (gCons (gName j) gNil)))) tz D σ H :=
  h H (Ex.refl H) _ fun p H1 _ e hp => ⟨p, [x, y], rfl, sq_of hp, hn, _, _, rfl, _, _, rfl, rfl, k H1 e⟩
theorem eu_tupL {xs : List V} (h : EvL te σ H xs) : EvU (tCB (fun xs H Q => ∃ p ys, xs = [V.ref p] ∧ ((SqL K H p ys ∧ ∀ l, H l = none → Q (V.ref l) (upd H l (.tup ys))) ∨ (SqT K H p ys ∧ Q (V.ref p) H))) (tCons te tNil)) σ H xs := fun H1 e Q q =>
  h H1 e _ fun p H2 hp e2 h2 => ⟨p, xs, rfl, .inl ⟨sq_of h2, fun l hl => q l _ (fresh_back e2 hl) (e2.trans (Ex.new hl)) upd_same⟩⟩
/-- raise C(..) by such an __init__ -/
theorem s_raiseO {C : Addr} {g : List V → List (Str × V) → Prop} {t : TA} {us : List V} {fs : List (Str × V)} (h : EvA t σ H us) (hg : g us fs) (hl : us.length ≤ 1000) (k : Fails H E C fs) :
    tMkO C (spOInit C g) [] t σ H fun cls d H' => E cls d H' := h H (Ex.refl H) _ fun H2 e2 => oinit_fails (W := fun cls d _ H => E cls d H) (σ := σ) hg hl (k.mono e2) fun _ _ _ h => h
end
theorem blank_str : (" " : Str) = mkS [32] := by decide +kernel
theorem hd_of {z : Str} (h : 0 < z.length) : ∃ c r, tl z = c :: r := by
  cases e : tl z with
  | nil =>
    have := len_tl z
    rw [e] at this
    simp at this
    omega
  | cons a b => exact ⟨a, b, rfl⟩
theorem str_eq (a b : Str) : decide (V.str a = V.str b) = decide (a = b) := by
  apply decide_eq_decide.mpr
  constructor
  · intro h; exact V.str.inj h
  · intro h; rw [h]
theorem one_eq (c d : Nat) : decide ((⟨#[c]⟩ : Str) = mkS [d]) = decide (c = d) := by
  apply decide_eq_decide.mpr
  constructor
  · intro h
    have := congrArg tl h
    simpa [tl, mkS] using this
  · intro h; subst h; rfl
theorem inV_strs (z : Str) (ws : List Str) : inV (.str z) (ws.map V.str) = decide (z ∈ ws) := by
  induction ws with
  | nil => rfl
  | cons a r ih =>
    have e : inV (.str z) ((a :: r).map V.str) = ((a == z) || inV (.str z) (r.map V.str)) := rfl
    rw [e, ih]
    have e2 : (a == z) = decide (z = a) := by
      by_cases q : a = z
      · subst q; simp
      · rw [decide_eq_false (fun h => q h.symm)]; simpa using q
    rw [e2, ← Bool.decide_or]
    apply decide_eq_decide.mpr
    rw [List.mem_cons]
theorem flat_strs : ∀ ws : List Str, (ws.map V.str).all flatV = true
  | [] => rfl
  | a :: r => flat_strs r
end SB

set_option maxHeartbeats 4000000
namespace SB
open PySem PySem.Spec PyProof.Rows L2
open TL (tl)
/-! ### the parser, as plain functions of the tokens and the place -/
abbrev Err := Nat × Nat
abbrev PR (α : Type) := Except Err (α × Nat)
def andThen {α β : Type} : PR α → (α → Nat → PR β) → PR β
  | .error e, _ => .error e
  | .ok (a, i), f => f a i
def takeK (ks : List Str) (ts : List Tk) (i : Nat) : PR Tk :=
  match ts[i]? with
  | some t => if decide (t.kind ∈ ks) = true then .ok (t, i + 1) else .error (t.line, t.col)
  | none => .error (0, 0)
def kindAt (ts : List Tk) (i : Nat) : Str := match ts[i]? with
  | some t => t.kind
  | none => ""
structure StepM where
  label : Option Tk
  command : Tk
  target : Option Tk
structure RobM where
  start : Tk
  steps : List StepM
structure PlanM where
  keyword : Tk
  numbers : List Tk
  robots : List RobM
def commands : List Str := ["left", "right", "pick", "put", "wait", "goto", "empty", "held"]
def jumps : List Str := ["goto", "empty", "held"]
def takeLabel (ts : List Tk) (i : Nat) : PR (Option Tk) :=
  if kindAt ts i = "name" then andThen (takeK ["name"] ts i) fun t j => andThen (takeK [":"] ts j) fun _ m => .ok (some t, m) else .ok (none, i)
def takeTarget (c : Tk) (ts : List Tk) (i : Nat) : PR (Option Tk) :=
  if decide (c.kind ∈ jumps) = true then andThen (takeK ["name"] ts i) fun t j => .ok (some t, j) else .ok (none, i)
def takeStep (ts : List Tk) (i : Nat) : PR StepM :=
  andThen (takeLabel ts i) fun lab j => andThen (takeK commands ts j) fun c m => andThen (takeTarget c ts m) fun tg n => andThen (takeK [";"] ts n) fun _ o => .ok (⟨lab, c, tg⟩, o)
/-- the steps up to the closing sign -/
def takeSteps : Nat → List Tk → Nat → PR (List StepM)
  | 0, _, _ => .error (0, 0)
  | n + 1, ts, i => if kindAt ts i = "}" then .ok ([], i) else andThen (takeStep ts i) fun s j => andThen (takeSteps n ts j) fun ss m => .ok (s :: ss, m)
def takeNums : Nat → List Tk → Nat → PR (List Tk)
  | 0, _, _ => .error (0, 0)
  | n + 1, ts, i => if kindAt ts i = "number" then andThen (takeK ["number"] ts i) fun t j => andThen (takeNums n ts j) fun r m => .ok (t :: r, m) else .ok ([], i)
def takeRobot (ts : List Tk) (i : Nat) : PR RobM :=
  andThen (takeK ["robot"] ts i) fun _ j => andThen (takeK ["number"] ts j) fun st m => andThen (takeK ["{"] ts m) fun _ n => andThen (takeStep ts n) fun s o => andThen (takeSteps (ts.length + 1) ts o) fun ss p =>
    andThen (takeK ["}"] ts p) fun _ q => .ok (⟨st, s :: ss⟩, q)
def takePlan (ts : List Tk) (i : Nat) : PR PlanM :=
  andThen (takeK ["shelf"] ts i) fun kw j => andThen (takeK ["number"] ts j) fun n0 m => andThen (takeNums (ts.length + 1) ts m) fun ns n => andThen (takeK [";"] ts n) fun _ o =>
    andThen (takeRobot ts o) fun r0 p => andThen (takeRobot ts p) fun r1 q => andThen (takeK ["end"] ts q) fun _ r => .ok (⟨kw, n0 :: ns, [r0, r1]⟩, r)
/-- the whole text -/
def parse (z : Str) : Except Err PlanM := match lexAll z with
  | .error e => .error e
  | .ok ts => match takePlan ts 0 with
    | .error e => .error e
    | .ok (p, _) => .ok p
theorem andThen_ok {α β : Type} {r : PR α} {f : α → Nat → PR β} {b : β} {j : Nat} (h : andThen r f = .ok (b, j)) : ∃ a i, r = .ok (a, i) ∧ f a i = .ok (b, j) := by
  cases r with
  | error e => cases h
  | ok x => exact ⟨x.1, x.2, rfl, h⟩
/-- the last token is the end's -/
def EndsK (ts : List Tk) : Prop := ∀ t, ts[ts.length - 1]? = some t → t.kind = "end"
theorem takeK_ok {ks : List Str} {ts : List Tk} {i j : Nat} {t : Tk} (h : takeK ks ts i = .ok (t, j)) : ts[i]? = some t ∧ t.kind ∈ ks ∧ j = i + 1 := by
  unfold takeK at h
  cases q : ts[i]? with
  | none => rw [q] at h; cases h
  | some u =>
    rw [q] at h
    dsimp only at h
    by_cases m : u.kind ∈ ks
    · rw [if_pos (decide_eq_true m)] at h
      have e := Except.ok.inj h
      obtain ⟨rfl, rfl⟩ := Prod.mk.inj e
      exact ⟨rfl, m, rfl⟩
    · rw [if_neg (by simpa using m)] at h
      cases h
theorem takeK_lt {ks : List Str} {ts : List Tk} {i j : Nat} {t : Tk} (e : EndsK ts) (he : ("end" : Str) ∉ ks) (h : takeK ks ts i = .ok (t, j)) : j < ts.length := by
  obtain ⟨h1, h2, rfl⟩ := takeK_ok h
  have hi := (List.getElem?_eq_some_iff.mp h1).1
  by_cases q : i = ts.length - 1
  · rw [q] at h1
    exact absurd (e t h1 ▸ h2) he
  · omega
theorem takeLabel_lt {ts : List Tk} {i j : Nat} {o : Option Tk} (e : EndsK ts) (hi : i < ts.length) (h : takeLabel ts i = .ok (o, j)) : i ≤ j ∧ j < ts.length := by
  unfold takeLabel at h
  split at h
  · obtain ⟨a, m, h1, h2⟩ := andThen_ok h
    obtain ⟨b, n, h3, h4⟩ := andThen_ok h2
    have z := Except.ok.inj h4
    obtain ⟨_, rfl⟩ := Prod.mk.inj z
    have := takeK_lt e (by decide +kernel) h3
    have h5 := (takeK_ok h1).2.2
    have h6 := (takeK_ok h3).2.2
    omega
  · have z := Except.ok.inj h
    obtain ⟨_, rfl⟩ := Prod.mk.inj z
    omega
theorem takeTarget_lt {ts : List Tk} {c : Tk} {i j : Nat} {o : Option Tk} (e : EndsK ts) (hi : i < ts.length) (h : takeTarget c ts i = .ok (o, j)) : i ≤ j ∧ j < ts.length := by
  unfold takeTarget at h
  split at h
  · obtain ⟨a, m, h1, h2⟩ := andThen_ok h
    have z := Except.ok.inj h2
    obtain ⟨_, rfl⟩ := Prod.mk.inj z
    have := takeK_lt e (by decide +kernel) h1
    have h5 := (takeK_ok h1).2.2
    omega
  · have z := Except.ok.inj h
    obtain ⟨_, rfl⟩ := Prod.mk.inj z
    omega
theorem takeStep_lt {ts : List Tk} {i j : Nat} {s : StepM} (e : EndsK ts) (hi : i < ts.length) (h : takeStep ts i = .ok (s, j)) : i < j ∧ j < ts.length := by
  unfold takeStep at h
  obtain ⟨a, m, h1, h⟩ := andThen_ok h
  obtain ⟨b, n, h2, h⟩ := andThen_ok h
  obtain ⟨c, o, h3, h⟩ := andThen_ok h
  obtain ⟨d, p, h4, h⟩ := andThen_ok h
  have z := Except.ok.inj h
  obtain ⟨_, rfl⟩ := Prod.mk.inj z
  have l1 := takeLabel_lt e hi h1
  have l2 := takeK_lt e (by decide +kernel) h2
  have l2' := (takeK_ok h2).2.2
  have l3 := takeTarget_lt e l2 h3
  have l4 := takeK_lt e (by decide +kernel) h4
  have l4' := (takeK_ok h4).2.2
  omega
theorem takeSteps_lt : ∀ {n : Nat} {ts : List Tk} {i j : Nat} {s : List StepM}, EndsK ts → i < ts.length → takeSteps n ts i = .ok (s, j) → i ≤ j ∧ j < ts.length
  | 0, ts, i, j, s, e, hi, h => by cases h
  | n + 1, ts, i, j, s, e, hi, h => by
    unfold takeSteps at h
    split at h
    · have z := Except.ok.inj h
      obtain ⟨_, rfl⟩ := Prod.mk.inj z
      omega
    · obtain ⟨a, m, h1, h⟩ := andThen_ok h
      obtain ⟨b, o, h2, h⟩ := andThen_ok h
      have z := Except.ok.inj h
      obtain ⟨_, rfl⟩ := Prod.mk.inj z
      have l1 := takeStep_lt e hi h1
      have l2 := takeSteps_lt e l1.2 h2
      omega
theorem takeNums_lt : ∀ {n : Nat} {ts : List Tk} {i j : Nat} {s : List Tk}, EndsK ts → i < ts.length → takeNums n ts i = .ok (s, j) → i ≤ j ∧ j < ts.length
  | 0, ts, i, j, s, e, hi, h => by cases h
  | n + 1, ts, i, j, s, e, hi, h => by
    unfold takeNums at h
    split at h
    · obtain ⟨a, m, h1, h⟩ := andThen_ok h
      obtain ⟨b, o, h2, h⟩ := andThen_ok h
      have z := Except.ok.inj h
      obtain ⟨_, rfl⟩ := Prod.mk.inj z
      have l1 := takeK_lt e (by decide +kernel) h1
      have l1' := (takeK_ok h1).2.2
      have l2 := takeNums_lt e l1 h2
      omega
    · have z := Except.ok.inj h
      obtain ⟨_, rfl⟩ := Prod.mk.inj z
      omega
theorem takeRobot_lt {ts : List Tk} {i j : Nat} {s : RobM} (e : EndsK ts) (hi : i < ts.length) (h : takeRobot ts i = .ok (s, j)) : i ≤ j ∧ j < ts.length := by
  unfold takeRobot at h
  obtain ⟨_, a1, h1, h⟩ := andThen_ok h
  obtain ⟨_, a2, h2, h⟩ := andThen_ok h
  obtain ⟨_, a3, h3, h⟩ := andThen_ok h
  obtain ⟨_, a4, h4, h⟩ := andThen_ok h
  obtain ⟨_, a5, h5, h⟩ := andThen_ok h
  obtain ⟨_, a6, h6, h⟩ := andThen_ok h
  have z := Except.ok.inj h
  obtain ⟨_, rfl⟩ := Prod.mk.inj z
  have l1' := (takeK_ok h1).2.2
  have l2' := (takeK_ok h2).2.2
  have l3' := (takeK_ok h3).2.2
  have l3 := takeK_lt e (by decide +kernel) h3
  have l4 := takeStep_lt e l3 h4
  have l5 := takeSteps_lt e l4.2 h5
  have l6 := takeK_lt e (by decide +kernel) h6
  have l6' := (takeK_ok h6).2.2
  omega
/-! ### sizes of what the lexer gives -/
theorem readRow_small : ∀ (n : Nat) (l : List Nat) (line col : Nat) (ts : List Tk), readRow n l line col = .ok ts → ∀ t ∈ ts, t.line = line ∧ t.col ≤ col + l.length
  | 0, l, line, col, ts, h => by
    obtain rfl := Except.ok.inj h
    simp
  | n + 1, [], line, col, ts, h => by
    obtain rfl := Except.ok.inj h
    simp
  | n + 1, c :: r, line, col, ts, h => by
    by_cases q : c = 32
    · subst q
      rw [readRow_blank] at h
      intro t ht
      have := readRow_small n r line (col + 1) ts h t ht
      simp
      omega
    · cases hk : kindOf (longest (c :: r)) with
      | none =>
        rw [readRow_bad q hk] at h
        cases h
      | some k =>
        rw [readRow_tok q hk] at h
        obtain ⟨t2, h2, rfl⟩ := withFront_ok h
        intro t ht
        rcases List.mem_append.mp ht with ht | ht
        · rw [List.mem_singleton.mp ht]
          exact ⟨rfl, by show col ≤ _; omega⟩
        · have := readRow_small n _ line _ t2 h2 t ht
          rw [List.length_drop] at this
          have h4 := longest_le (c :: r)
          omega
theorem readRows_small : ∀ (rows : List Str) (line : Nat) (ts : List Tk) (B : Nat), (∀ r ∈ rows, r.length ≤ B) → readRows rows line = .ok ts → (∀ t ∈ ts, t.line < line + rows.length ∧ t.col ≤ B) ∧ ts.length ≤ (rows.map Str.length).sum
  | [], line, ts, B, _, h => by
    obtain rfl := Except.ok.inj h
    simp
  | z :: r, line, ts, B, hB, h => by
    cases hz : readRow z.length (tl z) line 0 with
    | error e =>
      rw [readRows_cons_bad hz] at h
      cases h
    | ok t1 =>
      rw [readRows_cons_ok hz] at h
      obtain ⟨t2, h2, rfl⟩ := withFront_ok h
      have a := readRow_small _ _ _ _ _ hz
      have b := readRow_len _ _ _ _ _ hz
      have c := readRows_small r (line + 1) t2 B (fun x hx => hB x (List.mem_cons_of_mem _ hx)) h2
      rw [len_tl] at b
      have hzB := hB z (List.mem_cons_self ..)
      constructor
      · intro t ht
        rcases List.mem_append.mp ht with ht | ht
        · have := a t ht
          rw [len_tl] at this
          simp
          omega
        · have := c.1 t ht
          simp
          omega
      · have := c.2
        simp only [List.length_append, List.map_cons, List.sum_cons]
        omega
theorem mem_le_sum : ∀ (l : List Nat) (x : Nat), x ∈ l → x ≤ l.sum
  | a :: l, x, h => by
    rcases List.mem_cons.mp h with h | h
    · subst h
      simp
    · have := mem_le_sum l x h
      simp
      omega
theorem lex_facts {z : Str} {ts : List Tk} (h : lexAll z = .ok ts) : (∀ t ∈ ts, t.line ≤ z.length + 1 ∧ t.col ≤ z.length + 1) ∧ ts.length ≤ z.length + 2 ∧ 0 < ts.length ∧ EndsK ts := by
  unfold lexAll at h
  cases hr : readRows (Txt.split z "\n") 0 with
  | error e =>
    rw [hr] at h
    cases h
  | ok t1 =>
    rw [hr] at h
    obtain rfl := Except.ok.inj h
    have rl := rows_len z
    have sp := PyProof.Rows.split_pos z "\n"
    have a := readRows_small _ _ _ (z.length + 1) (fun r hr => by
      have := mem_le_sum ((Txt.split z "\n").map Str.length) r.length (List.mem_map.mpr ⟨r, hr, rfl⟩)
      omega) hr
    refine ⟨fun t ht => ?_, ?_, ?_, ?_⟩
    · rcases List.mem_append.mp ht with ht | ht
      · have := a.1 t ht
        omega
      · rw [List.mem_singleton.mp ht]
        show (Txt.split z "\n").length ≤ z.length + 1 ∧ 0 ≤ z.length + 1
        omega
    · rw [List.length_append]
      have := a.2
      simp
      omega
    · rw [List.length_append]
      simp
    · intro t ht
      rw [List.length_append, List.length_singleton, Nat.add_sub_cancel, List.getElem?_append_right (Nat.le_refl _), Nat.sub_self] at ht
      obtain rfl : endTk _ = t := Option.some.inj ht
      rfl
end SB

set_option maxHeartbeats 4000000
namespace SB
open PySem PySem.Spec PyProof.Rows L2
open TL (tl)
/-- the text of a number -/
def numS (n : Nat) : Str := Str.ofString (toString ((n : Nat) : Int))
theorem numS_tl (n : Nat) : tl (numS n) = TL.numL n := TL.tl_num n
theorem numS_int {n : Nat} (h : n < 100) : PySem.intText? (numS n) = some (n : Int) := by
  have := TL.numL_len (n := n) (k := 2) (by decide) h
  exact TL.int_num (by omega)
theorem numS_len {n : Nat} (h : n < 100) : (numS n).length ≤ 2 := by
  have := TL.numL_len (n := n) (k := 2) (by decide) h
  rw [← numS_tl] at this
  rw [← len_tl]
  exact this
/-! ### labels -/
abbrev KVs := List (Key × V)
def labPut (m : KVs) (o : Option Tk) (n : Nat) : KVs := match o with
  | none => m
  | some t => match valV m (.inr t.text : Key) with
    | some _ => m
    | none => putK m (.inr t.text : Key) (.int n)
def labsFrom : List StepM → Nat → KVs → KVs
  | [], _, m => m
  | s :: r, i, m => labsFrom r (i + 1) (labPut m s.label i)
def firstLabs (ss : List StepM) : KVs := labsFrom ss 0 []
def labIx : List StepM → Str → Nat → Option Nat
  | [], _, _ => none
  | s :: r, x, i => if (s.label.map fun t => t.text) = some x then some i else labIx r x (i + 1)
theorem labPut_len (m : KVs) (o : Option Tk) (n : Nat) : (labPut m o n).length ≤ m.length + 1 := by
  unfold labPut
  cases o with
  | none => exact Nat.le_succ _
  | some t =>
    dsimp only
    cases h : valV m (.inr t.text : Key) with
    | some _ => exact Nat.le_succ _
    | none =>
      dsimp only
      rw [putK_new _ h, List.length_append]
      exact Nat.le_refl _
theorem labPut_val (m : KVs) (o : Option Tk) (n : Nat) (x : Str) : valV (labPut m o n) (.inr x : Key) = match valV m (.inr x : Key) with
    | some v => some v
    | none => if (o.map fun t => t.text) = some x then some (.int n) else none := by
  unfold labPut
  cases o with
  | none =>
    cases h : valV m (.inr x : Key) <;> simp [h]
  | some t =>
    dsimp only
    cases h : valV m (.inr t.text : Key) with
    | some u =>
      dsimp only
      cases h2 : valV m (.inr x : Key) with
      | some v => rfl
      | none =>
        dsimp only
        rw [if_neg]
        intro e
        have e2 : t.text = x := Option.some.inj e
        rw [e2] at h
        rw [h] at h2
        cases h2
    | none =>
      dsimp only
      rw [valV_put]
      by_cases e : t.text = x
      · subst e
        rw [if_pos rfl, h]
        simp
      · rw [if_neg (fun q => e (Sum.inr.inj q).symm)]
        cases h2 : valV m (.inr x : Key) with
        | some v => rfl
        | none =>
          dsimp only
          rw [if_neg]
          intro q
          exact e (Option.some.inj q)
theorem labsFrom_val : ∀ (ss : List StepM) (i : Nat) (m : KVs) (x : Str), valV (labsFrom ss i m) (.inr x : Key) = match valV m (.inr x : Key) with
    | some v => some v
    | none => (labIx ss x i).map fun (n : Nat) => V.int n
  | [], i, m, x => by
    show valV m _ = _
    cases h : valV m (.inr x : Key) <;> rfl
  | s :: r, i, m, x => by
    show valV (labsFrom r (i + 1) (labPut m s.label i)) _ = _
    rw [labsFrom_val r (i + 1), labPut_val]
    cases h : valV m (.inr x : Key) with
    | some v => rfl
    | none =>
      dsimp only
      by_cases e : (s.label.map fun t => t.text) = some x
      · rw [if_pos e]
        show some _ = (if _ then _ else _ : Option Nat).map _
        rw [if_pos e]
        rfl
      · rw [if_neg e]
        show _ = (if _ then _ else _ : Option Nat).map _
        rw [if_neg e]
theorem firstLabs_val (ss : List StepM) (x : Str) : valV (firstLabs ss) (.inr x : Key) = (labIx ss x 0).map fun (n : Nat) => V.int n := by
  unfold firstLabs
  rw [labsFrom_val]
  rfl
/-! ### what a plan must be -/
structure ValidS (ss : List StepM) : Prop where
  len : ss.length ≤ 20
  own : ∀ (i : Nat) s t, ss[i]? = some s → s.label = some t → labIx ss t.text 0 = some i
  tgt : ∀ s t, s ∈ ss → s.target = some t → ∃ n, labIx ss t.text 0 = some n
structure ValidP (p : PlanM) (bx : List Nat) (a b : Nat) (r0 r1 : RobM) : Prop where
  nums : p.numbers.map (·.text) = bx.map numS
  most : ∀ n ∈ bx, n ≤ 3
  lo : 3 ≤ bx.length
  hi : bx.length ≤ 12
  rob : p.robots = [r0, r1]
  sa : r0.start.text = numS a
  sb : r1.start.text = numS b
  la : a < bx.length
  lb : b < bx.length
  ab : a ≠ b
  v0 : ValidS r0.steps
  v1 : ValidS r1.steps
/-- a step with the place to which it leads -/
abbrev Lk := Str × Option Nat
def linkOf (ss : List StepM) (s : StepM) : Lk := (s.command.text, s.target.bind fun t => labIx ss t.text 0)
def linked (ss : List StepM) : List Lk := ss.map (linkOf ss)
theorem take_more {α : Type} : ∀ {l : List α} {i : Nat} {x : α}, l[i]? = some x → l.take (i + 1) = l.take i ++ [x]
  | [], i, x, h => by simp at h
  | a :: l, 0, x, h => by
    obtain rfl : a = x := Option.some.inj h
    rfl
  | a :: l, i + 1, x, h => by
    show a :: l.take (i + 1) = a :: l.take i ++ [x]
    rw [take_more (l := l) (i := i) h]
    rfl
/-- a plan that was read -/
structure Plm where
  bx : List Nat
  a : Nat
  b : Nat
  l0 : List Lk
  l1 : List Lk
end SB

set_option maxHeartbeats 4000000
namespace SB
open PySem PySem.Spec PyProof.Rows L2
open TL (tl)
open Evl
/-- all but q stays -/
def ExN (q : Addr) (H H' : Hp) : Prop := ∀ a o, a ≠ q → H a = some o → H' a = some o
theorem ExN.refl (q : Addr) (H : Hp) : ExN q H H := fun _ _ _ h => h
theorem ExN.trans {q : Addr} {H H1 H2 : Hp} (a : ExN q H H1) (b : ExN q H1 H2) : ExN q H H2 := fun x o n h => b x o n (a x o n h)
theorem ExN.of {q : Addr} {H H' : Hp} (e : Ex H H') : ExN q H H' := fun a o _ h => e a o h

/-- the source of the draws -/
def DOk (xs : List V) : Prop := ∃ (s c : Nat) (bs : List Nat), xs = .int s :: .int c :: bs.map (fun (n : Nat) => V.int n) ∧ bs.length ≤ 100
def DAt (a : Addr) (H : Hp) : Prop := ∃ xs, H a = some (.lst xs) ∧ DOk xs
theorem DAt.ex {a : Addr} {H H' : Hp} (e : Ex H H') (h : DAt a H) : DAt a H' := by
  obtain ⟨xs, h1, h2⟩ := h
  exact ⟨xs, e _ _ h1, h2⟩
def spRandom (K : PySem.W.Frag) : Sp := fun vs H Q _ => ∃ sc, ∃ ns : List Int, ∃ salt : Nat, vs = [.ref sc, .int salt] ∧ SqL K H sc (ns.map V.int) ∧ ns.length ≤ 63 ∧ ∀ p H', H p = none → Ex H H' → DAt p H' → Q (.ref p) H'
def spBelow : Sp := fun vs H Q _ => ∃ a, ∃ lim : Nat, vs = [.ref a, .int lim] ∧ DAt a H ∧ 0 < lim ∧ lim < 1000001 ∧ ∀ (r : Nat) H', r < lim → ExN a H H' → DAt a H' → Q (.int r) H'
theorem at_nat {xs : List V} {i : Nat} {v : V} (h : xs[i]? = some v) : atI xs (i : Int) = some v := by
  unfold atI
  have hi : i < xs.length := (List.getElem?_eq_some_iff.mp h).1
  rw [ixN_nat hi]
  exact h
theorem sqi_nat {i n : Nat} (h : i < n) : seqIndex? (i : Int) n = some i := by
  have h1 : ¬ ((i : Int) < 0) := by omega
  have h2 : (0 : Int) ≤ i := by omega
  have h3 : (i : Int) < n := by omega
  unfold seqIndex?
  simp only [h1, if_false, h2, h3, decide_true, Bool.and_true, if_true, Int.toNat_natCast]
theorem ev_abs {ta : TE} {σ : L2.St} {H : Hp} {i : Int} (h : Ev ta σ H (.int i)) : Ev (tCB (fun xs H Q => ∃ i, xs = [.int i] ∧ Q (.int (if i < 0 then -i else i)) H) (tCons ta tNil)) σ H (.int (if i < 0 then -i else i)) := fun H1 e Q q => h H1 e _ fun H2 e2 => ⟨i, rfl, q H2 e2⟩
theorem fr_of {a p : Addr} {H H' : Hp} (e : ExN a H H') (d : DAt a H') (h : H' p = none) : H p = none := by
  cases w : H p with
  | none => rfl
  | some o =>
    by_cases c : p = a
    · subst c
      obtain ⟨xs, h1, _⟩ := d
      rw [h1] at h
      cases h
    · rw [e p o c w] at h
      cases h
theorem DAt.put {a p : Addr} {H : Hp} {o : HO} (d : DAt a H) (h : H p = none) : DAt a (upd H p o) := d.ex (Ex.new h)
theorem DAt.ne {a p : Addr} {H : Hp} (d : DAt a H) (h : H p = none) : p ≠ a := by
  intro z
  subst z
  obtain ⟨xs, h1, _⟩ := d
  rw [h1] at h
  cases h
theorem ExN.new {a p : Addr} {H H' : Hp} {o : HO} (e : ExN a H H') (h : H' p = none) : ExN a H (upd H' p o) := e.trans (ExN.of (Ex.new h))
/-- p was new: it may change -/
theorem ExN.mut {a p : Addr} {H H' : Hp} {o : HO} (e : ExN a H H') (h : H p = none) : ExN a H (upd H' p o) := fun z o' nz hz => by
  rw [upd_ne (fun c => by rw [c, h] at hz; cases hz)]
  exact e z o' nz hz
theorem DAt.mut {a p : Addr} {H : Hp} {o : HO} (d : DAt a H) (n : p ≠ a) : DAt a (upd H p o) := by
  obtain ⟨xs, h1, h2⟩ := d
  exact ⟨xs, by rw [upd_ne (Ne.symm n)]; exact h1, h2⟩
end SB

set_option maxHeartbeats 4000000
namespace SB
open PySem PySem.Spec PyProof.Rows L2
open TL (tl)
open Evl
/-! ### a logic without the heap: what is frozen (told by FP), what is owned (told by OP), the source of draws -/
/-- a predicate of a value in a frozen heap -/
structure FP where
  p : Hp → V → Prop
  mono : ∀ {F F' : Hp} {v : V}, Ex F F' → p F v → p F' v
/-- a predicate of an object that is owned, over the frozen heap -/
structure OP where
  r : Hp → Addr → HO → Prop
  mono : ∀ {F F' : Hp} {p : Addr} {o : HO}, Ex F F' → r F p o → r F' p o
inductive En where
  | fx (φ : FP)
  | oo (R : OP)
  | dr
  | un
abbrev Al (F : Hp) : List V → List FP → Prop := Paired fun v φ => φ.p F v
theorem Al.mono {F F' : Hp} {vs : List V} {φs : List FP} (e : Ex F F') (h : Al F vs φs) : Al F' vs φs := Paired.mapP h fun _ φ r => φ.mono e r
mutual
/-- data that stand in the heap; lists are exact, so that they may be put together -/
inductive Dq (K : PySem.W.Frag) (H : Hp) : V → PyData → Prop
  | non : Dq K H .non .none
  | bl (b : Bool) : Dq K H (.bl b) (.bool b)
  | int (i : Int) : Dq K H (.int i) (.int i)
  | str (x : Str) : Dq K H (.str x) (.str x)
  | lst {a : Addr} {xs : List V} {ds : List PyData} : H a = some (.lst xs) → DqAll K H xs ds → Dq K H (.ref a) (.list ds)
  | tup {a : Addr} {xs : List V} {ds : List PyData} : H a = some (.tup xs) → DqAll K H xs ds → Dq K H (.ref a) (.tuple ds)
inductive DqAll (K : PySem.W.Frag) (H : Hp) : List V → List PyData → Prop
  | nil : DqAll K H [] []
  | cons {v : V} {vs : List V} {d : PyData} {ds : List PyData} : Dq K H v d → DqAll K H vs ds → DqAll K H (v :: vs) (d :: ds)
end
mutual
theorem dq_ex {K : PySem.W.Frag} {F F' : Hp} (e : Ex F F') : ∀ {v : V} {d : PyData}, Dq K F v d → Dq K F' v d
  | _, _, .non => .non
  | _, _, .bl b => .bl b
  | _, _, .int i => .int i
  | _, _, .str x => .str x
  | _, _, .lst h r => .lst (e _ _ h) (dqAll_ex e r)
  | _, _, .tup h r => .tup (e _ _ h) (dqAll_ex e r)
theorem dqAll_ex {K : PySem.W.Frag} {F F' : Hp} (e : Ex F F') : ∀ {vs : List V} {ds : List PyData}, DqAll K F vs ds → DqAll K F' vs ds
  | _, _, .nil => .nil
  | _, _, .cons h r => .cons (dq_ex e h) (dqAll_ex e r)
end
mutual
theorem dq_dp {K : PySem.W.Frag} {F : Hp} : ∀ {v : V} {d : PyData}, Dq K F v d → Dp K F v d
  | _, _, .non => .non
  | _, _, .bl b => .bl b
  | _, _, .int i => .int i
  | _, _, .str x => .str x
  | _, _, .lst h r => .lst (sq_of h) (dqAll_dp r)
  | _, _, .tup h r => .tup (st_of h) (dqAll_dp r)
theorem dqAll_dp {K : PySem.W.Frag} {F : Hp} : ∀ {vs : List V} {ds : List PyData}, DqAll K F vs ds → DpAll K F vs ds
  | _, _, .nil => .nil
  | _, _, .cons h r => .cons (dq_dp h) (dqAll_dp r)
end
/-- frozen data -/
def Dd (K : PySem.W.Frag) (d : PyData) : FP := ⟨fun F v => Dq K F v d, fun e h => dq_ex e h⟩
/-- one of many -/
def FP.ex {α : Type} (R : α → Prop) (f : α → FP) : FP := ⟨fun F v => ∃ a, R a ∧ (f a).p F v, fun e ⟨a, r, h⟩ => ⟨a, r, (f a).mono e h⟩⟩
/-- a frozen list, its items told one by one -/
def LstF (_K : PySem.W.Frag) (φs : List FP) : FP := ⟨fun F v => ∃ p vs, v = .ref p ∧ F p = some (.lst vs) ∧ Al F vs φs, fun e ⟨p, vs, h1, h2, h3⟩ => ⟨p, vs, h1, e _ _ h2, h3.mono e⟩⟩
def TupF (_K : PySem.W.Frag) (φs : List FP) : FP := ⟨fun F v => ∃ p vs, v = .ref p ∧ F p = some (.tup vs) ∧ Al F vs φs, fun e ⟨p, vs, h1, h2, h3⟩ => ⟨p, vs, h1, e _ _ h2, h3.mono e⟩⟩
/-- an owned list -/
def OwL (φs : List FP) : OP := ⟨fun F _ o => ∃ vs, o = .lst vs ∧ Al F vs φs, fun e ⟨vs, h1, h2⟩ => ⟨vs, h1, h2.mono e⟩⟩
theorem al_dp {K : PySem.W.Frag} {F : Hp} : ∀ {vs : List V} {ds : List PyData}, Al F vs (ds.map (Dd K)) → DqAll K F vs ds
  | [], [], .nil => .nil
  | _ :: _, _ :: _, .cons h r => .cons h (al_dp r)
theorem dp_al {K : PySem.W.Frag} {F : Hp} : ∀ {vs : List V} {ds : List PyData}, DqAll K F vs ds → Al F vs (ds.map (Dd K))
  | [], [], .nil => .nil
  | _ :: _, _ :: _, .cons h r => .cons h (dp_al r)
def FP.le (φ ψ : FP) : Prop := ∀ {F : Hp} {v : V}, φ.p F v → ψ.p F v
theorem FP.le.refl (φ : FP) : φ.le φ := fun h => h
theorem lst_dp {K : PySem.W.Frag} {ds : List PyData} : (LstF K (ds.map (Dd K))).le (Dd K (.list ds)) := fun ⟨_, _, e, h, r⟩ => by
  subst e
  exact .lst h (al_dp r)
theorem tup_dp {K : PySem.W.Frag} {ds : List PyData} : (TupF K (ds.map (Dd K))).le (Dd K (.tuple ds)) := fun ⟨_, _, e, h, r⟩ => by
  subst e
  exact .tup h (al_dp r)
theorem dp_lst {K : PySem.W.Frag} {ds : List PyData} : (Dd K (.list ds)).le (LstF K (ds.map (Dd K))) := fun {F v} h => by
  have h' : Dq K F v (.list ds) := h
  cases h' with
  | lst h1 r => exact ⟨_, _, rfl, h1, dp_al r⟩
theorem dp_tup {K : PySem.W.Frag} {ds : List PyData} : (Dd K (.tuple ds)).le (TupF K (ds.map (Dd K))) := fun {F v} h => by
  have h' : Dq K F v (.tuple ds) := h
  cases h' with
  | tup h1 r => exact ⟨_, _, rfl, h1, dp_al r⟩
theorem al_getV {F : Hp} {φ : FP} : ∀ {vs : List V} {φs : List FP} {i : Nat}, Al F vs φs → φs[i]? = some φ → ∃ v, vs[i]? = some v ∧ φ.p F v
  | _, _, _, .nil, e => by simp at e
  | _, _, 0, .cons r _, e => by simp at e; subst e; exact ⟨_, rfl, r⟩
  | _, _, i + 1, .cons _ t, e => by
    obtain ⟨u, h1, h2⟩ := al_getV (i := i) t (by simpa using e)
    exact ⟨u, by simpa using h1, h2⟩
theorem al_getF {F : Hp} {v : V} : ∀ {vs : List V} {φs : List FP} {i : Nat}, Al F vs φs → vs[i]? = some v → ∃ φ, φs[i]? = some φ ∧ φ.p F v
  | _, _, _, .nil, e => by simp at e
  | _, _, 0, .cons r _, e => by simp at e; subst e; exact ⟨_, rfl, r⟩
  | _, _, i + 1, .cons _ t, e => by
    obtain ⟨u, h1, h2⟩ := al_getF (i := i) t (by simpa using e)
    exact ⟨u, by simpa using h1, h2⟩
theorem al_at {F : Hp} {φ : FP} {vs : List V} {φs : List FP} {i : Int} (h : Al F vs φs) (e : atI φs i = some φ) : ∃ v, atI vs i = some v ∧ φ.p F v := by
  unfold atI at e ⊢
  have hl : vs.length = φs.length := Paired.length h
  rw [hl]
  cases q : ixN φs.length i with
  | none => rw [q] at e; cases e
  | some j =>
    rw [q] at e
    exact al_getV h e
theorem al_app {F : Hp} : ∀ {vs ws : List V} {φs ψs : List FP}, Al F vs φs → Al F ws ψs → Al F (vs ++ ws) (φs ++ ψs)
  | _, _, _, _, .nil, s => s
  | _, _, _, _, .cons r t, s => .cons r (al_app t s)
theorem al_set {F : Hp} {v : V} {φ : FP} (h : φ.p F v) : ∀ {vs : List V} {φs : List FP} (i : Nat), Al F vs φs → Al F (vs.set i v) (φs.set i φ)
  | _, _, _, .nil => .nil
  | _, _, 0, .cons _ t => .cons h t
  | _, _, i + 1, .cons r t => .cons r (al_set h i t)
theorem al_len {F : Hp} {vs : List V} {φs : List FP} (h : Al F vs φs) : vs.length = φs.length := Paired.length h
/-! ### the frame of a def -/
structure Fm where
  F0 : Hp
  H0 : Hp
  M : Option Addr
def SlotOk (m : Fm) (F H : Hp) (w : Option V) : En → Prop
  | .fx φ => ∃ v, w = some v ∧ φ.p F v
  | .oo R => ∃ p o, w = some (.ref p) ∧ F p = none ∧ m.H0 p = none ∧ H p = some o ∧ R.r F p o
  | .dr => ∃ a, w = some (.ref a) ∧ m.M = some a
  | .un => True
structure GE (m : Fm) (F H : Hp) (σ : L2.St) (Γ : List En) : Prop where
  fh : Ex F H
  base : Ex m.F0 F
  fresh : ∀ p o, F p = some o → m.F0 p = none → m.H0 p = none
  frame : ∀ p o, m.M ≠ some p → m.H0 p = some o → H p = some o
  dr : ∀ a, m.M = some a → DAt a H ∧ F a = none ∧ ∃ o, m.H0 a = some o
  len : σ.length = Γ.length
  slot : ∀ (i : Nat) e, Γ[i]? = some e → ∃ w, σ[i]? = some w ∧ SlotOk m F H w e
  sep : ∀ (i j : Nat) p R S, i ≠ j → Γ[i]? = some (.oo R) → Γ[j]? = some (.oo S) → σ[i]? = some (some (.ref p)) → σ[j]? = some (some (.ref p)) → False
section
variable {m : Fm} {F F' H H' : Hp} {σ : L2.St} {Γ : List En}
theorem SlotOk.mono {w : Option V} {e : En} (x : Ex F F') (h1 : ∀ p, F p = none → m.H0 p = none → (∃ o, H p = some o) → F' p = none ∧ ∀ o, H p = some o → H' p = some o) (h : SlotOk m F H w e) : SlotOk m F' H' w e := by
  cases e with
  | fx φ =>
    obtain ⟨v, e, q⟩ := h
    exact ⟨v, e, φ.mono x q⟩
  | oo R =>
    obtain ⟨p, o, e, n, n0, q, r⟩ := h
    obtain ⟨a, b⟩ := h1 p n n0 ⟨o, q⟩
    exact ⟨p, o, e, a, n0, b o q, R.mono x r⟩
  | dr => exact h
  | un => trivial
/-- what is neither frozen nor the source stays, and what is newly frozen was not there -/
theorem GE.step (h : GE m F H σ Γ) (x : Ex F F') (fh : Ex F' H') (n : ∀ p o, F' p = some o → F p = none → H p = none) (k : ∀ p o, m.M ≠ some p → F p = none → H p = some o → H' p = some o) (d : ∀ a, m.M = some a → DAt a H') : GE m F' H' σ Γ := by
  have nM : ∀ p, m.H0 p = none → m.M ≠ some p := fun p h0 e => by
    obtain ⟨_, _, o, ho⟩ := h.dr p e
    rw [h0] at ho
    cases ho
  have n0 : ∀ p o, F' p = some o → F p = none → m.H0 p = none := fun p o e q => by
    have hp := n p o e q
    cases w : m.H0 p with
    | none => rfl
    | some u =>
      by_cases c : m.M = some p
      · obtain ⟨⟨ys, hy, _⟩, _⟩ := h.dr p c
        rw [hp] at hy
        cases hy
      · rw [h.frame p u c w] at hp
        cases hp
  refine ⟨fh, h.base.trans x, fun p o e q => ?_, fun p o c q => ?_, fun a e => ⟨d a e, ?_, (h.dr a e).2.2⟩, h.len, fun i e q => ?_, h.sep⟩
  · cases w : F p with
    | none => exact n0 p o e w
    | some u => exact h.fresh p u w q
  · have hp := h.frame p o c q
    cases w : F p with
    | none => exact k p o c w hp
    | some u =>
      have hu := h.fh p u w
      rw [hp] at hu
      cases hu
      exact fh _ _ (x _ _ w)
  · obtain ⟨⟨ys, hy, _⟩, hf, o, ho⟩ := h.dr a e
    cases w : F' a with
    | none => rfl
    | some u =>
      rw [n0 a u w hf] at ho
      cases ho
  · obtain ⟨w, hw, s⟩ := h.slot i e q
    refine ⟨w, hw, s.mono x fun p nf nh ⟨o, ho⟩ => ⟨?_, fun o ho => k p o (nM p nh) nf ho⟩⟩
    cases z : F' p with
    | none => rfl
    | some u =>
      rw [n p u z nf] at ho
      cases ho
theorem GE.grow (h : GE m F H σ Γ) (x : Ex H H') : GE m F H' σ Γ :=
  h.step (Ex.refl F) (h.fh.trans x) (fun p o e q => by rw [q] at e; cases e) (fun p o _ _ q => x p o q) (fun a e => (h.dr a e).1.ex x)
/-- a new object is frozen -/
theorem GE.new {p : Addr} {o : HO} (h : GE m F H σ Γ) (x : Ex H H') (hp : H p = none) (ho : H' p = some o) : GE m (upd F p o) H' σ Γ ∧ Ex F (upd F p o) := by
  have nf : F p = none := by
    cases w : F p with
    | none => rfl
    | some u =>
      rw [h.fh p u w] at hp
      cases hp
  refine ⟨h.step (Ex.new nf) (fun q u e => ?_) (fun q u e n => ?_) (fun p o _ _ q => x p o q) (fun a e => (h.dr a e).1.ex x), Ex.new nf⟩
  · by_cases c : q = p
    · subst c
      rw [upd_same] at e
      rw [ho]
      exact e
    · rw [upd_ne c] at e
      exact x _ _ (h.fh _ _ e)
  · by_cases c : q = p
    · subst c
      exact hp
    · rw [upd_ne c] at e
      rw [n] at e
      cases e
theorem fresh_F (h : GE m F H σ Γ) {p : Addr} (hp : H p = none) : F p = none := fresh_back h.fh hp
end
/-! ### judgements -/
/-- all but the source of draws stays -/
def XM (m : Fm) (H H' : Hp) : Prop := ∀ p o, m.M ≠ some p → H p = some o → H' p = some o
structure XF (m : Fm) (F H F' H' : Hp) : Prop where
  f : Ex F F'
  k : XM m H H'
  n : ∀ p o, F' p = some o → F p = none → H p = none
  t : ∀ p o, H p = some o → ∃ o', H' p = some o'
section
variable {m : Fm} {F F' F2 H H' H2 : Hp}
theorem XF.refl : XF m F H F H := ⟨Ex.refl F, fun _ _ _ h => h, fun p o a b => (by rw [a] at b; cases b), fun p o h => ⟨o, h⟩⟩
theorem XF.trans (a : XF m F H F' H') (b : XF m F' H' F2 H2) : XF m F H F2 H2 := by
  refine ⟨a.f.trans b.f, fun p o n h => b.k p o n (a.k p o n h), fun p o h n => ?_, fun p o h => ?_⟩
  · cases w : F' p with
    | some u => exact a.n p u w n
    | none =>
      have q := b.n p o h w
      cases z : H p with
      | none => rfl
      | some u =>
        obtain ⟨u', hu⟩ := a.t p u z
        rw [q] at hu
        cases hu
  · obtain ⟨u, hu⟩ := a.t p o h
    exact b.t p u hu
theorem XF.grow (a : XF m F H F' H') (e : Ex H' H2) : XF m F H F' H2 := by
  refine ⟨a.f, fun p o n h => e p o (a.k p o n h), a.n, fun p o h => ?_⟩
  obtain ⟨u, hu⟩ := a.t p o h
  exact ⟨u, e p u hu⟩
theorem XF.frz {p : Addr} {o : HO} (a : XF m F H F' H') (hp : H p = none) (nf : F' p = none) : XF m F H (upd F' p o) H' := by
  refine ⟨a.f.trans (Ex.new nf), a.k, fun q u h n => ?_, a.t⟩
  by_cases c : q = p
  · rw [c]
    exact hp
  · rw [upd_ne c] at h
    exact a.n q u h n
theorem XF.new {p : Addr} {o : HO} (hp : H p = none) (nf : F p = none) (e : Ex H H') : XF m F H (upd F p o) H' := (XF.refl.grow e).frz hp nf
end
def EG (m : Fm) (Γ : List En) (te : TE) (ψ : FP) : Prop := ∀ (F H : Hp) (σ : L2.St), GE m F H σ Γ → ∀ Q : VK, (∀ v F1 H1, XF m F H F1 H1 → GE m F1 H1 σ Γ → ψ.p F1 v → Q v H1) → te σ H Q
def BG (m : Fm) (Γ : List En) (tt : TT) (P : Bool → Prop) : Prop := ∀ (F H : Hp) (σ : L2.St), GE m F H σ Γ → ∀ Q : Bool → Hp → Prop, (∀ b F1 H1, XF m F H F1 H1 → GE m F1 H1 σ Γ → P b → Q b H1) → tt σ H Q
def ArgOk (m : Fm) (F : Hp) (v : V) : En → Prop
  | .fx φ => φ.p F v
  | .dr => ∃ a, v = .ref a ∧ m.M = some a
  | _ => False
theorem ArgOk.mono {m : Fm} {F F' : Hp} {v : V} {e : En} (x : Ex F F') (h : ArgOk m F v e) : ArgOk m F' v e := by
  cases e with
  | fx φ => exact φ.mono x h
  | oo R => exact h
  | dr => exact h
  | un => exact h
abbrev Ags (m : Fm) (F : Hp) : List V → List En → Prop := Paired (ArgOk m F)
def AG (m : Fm) (Γ : List En) (ta : TA) (es : List En) : Prop := ∀ (F H : Hp) (σ : L2.St), GE m F H σ Γ → ∀ Q : List V → Hp → Prop, (∀ vs F1 H1, XF m F H F1 H1 → GE m F1 H1 σ Γ → Ags m F1 vs es → Q vs H1) → ta σ H Q
structure Po where
  nx : List En → Prop
  rt : FP
  bk : List En → Prop := fun _ => False
  ct : List En → Prop := fun _ => False
structure Re (m : Fm) (F : Hp) (po : Po) (D : Ends) : Prop where
  nx : ∀ σ' F' H' Γ', Ex F F' → GE m F' H' σ' Γ' → po.nx Γ' → D.nx σ' H'
  rt : ∀ σ' F' H' Γ' v, Ex F F' → GE m F' H' σ' Γ' → po.rt.p F' v → D.rt v H'
  bk : ∀ σ' F' H' Γ', Ex F F' → GE m F' H' σ' Γ' → po.bk Γ' → D.bk σ' H'
  ct : ∀ σ' F' H' Γ', Ex F F' → GE m F' H' σ' Γ' → po.ct Γ' → D.ct σ' H'
theorem Re.mono {m : Fm} {F F' : Hp} {po : Po} {D : Ends} (h : Re m F po D) (x : Ex F F') : Re m F' po D :=
  ⟨fun σ' F1 H' Γ' e => h.nx σ' F1 H' Γ' (x.trans e), fun σ' F1 H' Γ' v e => h.rt σ' F1 H' Γ' v (x.trans e), fun σ' F1 H' Γ' e => h.bk σ' F1 H' Γ' (x.trans e), fun σ' F1 H' Γ' e => h.ct σ' F1 H' Γ' (x.trans e)⟩
def SG (m : Fm) (Γ : List En) (ts : TS) (po : Po) : Prop := ∀ (F H : Hp) (σ : L2.St), GE m F H σ Γ → ∀ D : Ends, Re m F po D → ts D σ H
section
variable {m : Fm} {K : PySem.W.Frag} {Γ : List En} {ta tb te : TE} {t u : TT} {φ φ1 φ2 ψ : FP} {r : R2}
theorem eg_le (h : EG m Γ te φ) (l : φ.le ψ) : EG m Γ te ψ := fun F H σ E Q q => h _ _ _ E Q fun v F1 H1 x E1 p => q v F1 H1 x E1 (l p)
theorem eg_var {i : Nat} (h : Γ[i]? = some (.fx φ)) : EG m Γ (tVar i) φ := fun F H σ E Q q => by
  obtain ⟨w, hw, v, e, p⟩ := E.slot i _ h
  subst e
  exact ⟨v, hw, q v _ _ XF.refl E p⟩
theorem eg_c {v : V} (h : ∀ F, φ.p F v) : EG m Γ (tC v) φ := fun F H σ E Q q => q v _ _ XF.refl E (h _)
theorem eg_int {i : Int} : EG m Γ (tC (.int i)) (Dd K (.int i)) := eg_c fun _ => Dq.int i
theorem eg_str {z : Str} : EG m Γ (tC (.str z)) (Dd K (.str z)) := eg_c fun _ => Dq.str z
theorem eg_bl {b : Bool} : EG m Γ (tC (.bl b)) (Dd K (.bool b)) := eg_c fun _ => Dq.bl b
theorem eg_non : EG m Γ (tC .non) (Dd K .none) := eg_c fun _ => Dq.non
/-- a value of the logic, at a place of the heap -/
theorem dd_int {F : Hp} {v : V} {i : Int} (h : (Dd K (.int i)).p F v) : v = .int i := by
  have h : Dq K F v (.int i) := h
  cases h
  rfl
theorem dd_str {F : Hp} {v : V} {z : Str} (h : (Dd K (.str z)).p F v) : v = .str z := by
  have h : Dq K F v (.str z) := h
  cases h
  rfl
theorem dd_bl {F : Hp} {v : V} {b : Bool} (h : (Dd K (.bool b)).p F v) : v = .bl b := by
  have h : Dq K F v (.bool b) := h
  cases h
  rfl
theorem dd_non {F : Hp} {v : V} (h : (Dd K .none).p F v) : v = .non := by
  have h : Dq K F v .none := h
  cases h
  rfl
/-- data that stand in no heap -/
def scD : PyData → Option V
  | .none => some .non
  | .bool b => some (.bl b)
  | .int i => some (.int i)
  | .str z => some (.str z)
  | _ => none
theorem scD_v {F : Hp} {d : PyData} {v u : V} (h : scD d = some v) (p : Dq K F u d) : u = v := by
  cases p <;> cases h <;> rfl
theorem scD_p {F : Hp} {d : PyData} {v : V} (h : scD d = some v) : Dq K F v d := by
  cases d <;> cases h <;> constructor
/-- a two-place operation -/
theorem eg_op (ha : EG m Γ ta φ1) (hb : EG m Γ tb φ2) (hr : ∀ F H x y, Ex F H → φ1.p F x → φ2.p F y → ∃ z, ψ.p F z ∧ RV r x y H z) : EG m Γ (tOp r ta tb) ψ := fun F H σ E Q q =>
  ha _ _ _ E _ fun x F1 H1 x1 E1 p1 => hb _ _ _ E1 _ fun y F2 H2 x2 E2 p2 => by
    obtain ⟨z, pz, hz⟩ := hr F2 H2 x y E2.fh (φ1.mono x2.f p1) p2
    exact hz H2 (Ex.refl H2) Q fun H3 e3 => q z F2 H3 ((x1.trans x2).grow e3) (E2.grow e3) pz
theorem eg_I0 {g : Int → Int → V} {i j : Int} {d : PyData} (ha : EG m Γ ta (Dd K (.int i))) (hb : EG m Γ tb (Dd K (.int j))) (e : scD d = some (g i j)) : EG m Γ (tOp (rI0 g) ta tb) (Dd K d) :=
  eg_op ha hb fun F H x y _ p1 p2 => by
    rw [dd_int p1, dd_int p2]
    exact ⟨g i j, scD_p e, rv_I0⟩
theorem eg_I {C : Int → Int → Prop} {g : Int → Int → V} {i j : Int} {d : PyData} (ha : EG m Γ ta (Dd K (.int i))) (hb : EG m Γ tb (Dd K (.int j))) (c : C i j) (e : scD d = some (g i j)) : EG m Γ (tOp (rI C g) ta tb) (Dd K d) :=
  eg_op ha hb fun F H x y _ p1 p2 => by
    rw [dd_int p1, dd_int p2]
    exact ⟨g i j, scD_p e, rv_I c⟩
/-- == and != of what stands in no heap -/
theorem eg_eq {d1 d2 : PyData} {v1 v2 : V} (ha : EG m Γ ta (Dd K d1)) (hb : EG m Γ tb (Dd K d2)) (e1 : scD d1 = some v1) (e2 : scD d2 = some v2) (h : scal v1 v2 = true) : EG m Γ (tOp rEq ta tb) (Dd K (.bool (decide (v1 = v2)))) :=
  eg_op ha hb fun F H x y _ p1 p2 => by
    rw [scD_v e1 p1, scD_v e2 p2]
    exact ⟨_, .bl _, rv_eq h⟩
theorem eg_ne {d1 d2 : PyData} {v1 v2 : V} (ha : EG m Γ ta (Dd K d1)) (hb : EG m Γ tb (Dd K d2)) (e1 : scD d1 = some v1) (e2 : scD d2 = some v2) (h : scal v1 v2 = true) : EG m Γ (tOp rNe ta tb) (Dd K (.bool (!decide (v1 = v2)))) :=
  eg_op ha hb fun F H x y _ p1 p2 => by
    rw [scD_v e1 p1, scD_v e2 p2]
    exact ⟨_, .bl _, rv_ne h⟩
theorem eg_ixLF {φs : List FP} {i : Int} (ha : EG m Γ ta (LstF K φs)) (hb : EG m Γ tb (Dd K (.int i))) (h : atI φs i = some φ) : EG m Γ (tOp (rIxL K) ta tb) φ :=
  eg_op ha hb fun F H x y e ⟨p, vs, ex, hs, al⟩ p2 => by
    subst ex
    rw [dd_int p2]
    obtain ⟨v, h1, h2⟩ := al_at al h
    exact ⟨v, h2, rv_ixL (sq_of (e _ _ hs)) h1⟩
theorem eg_ixTF {φs : List FP} {i : Int} (ha : EG m Γ ta (TupF K φs)) (hb : EG m Γ tb (Dd K (.int i))) (h : atI φs i = some φ) : EG m Γ (tOp (rIxT K) ta tb) φ :=
  eg_op ha hb fun F H x y e ⟨p, vs, ex, hs, al⟩ p2 => by
    subst ex
    rw [dd_int p2]
    obtain ⟨v, h1, h2⟩ := al_at al h
    exact ⟨v, h2, rv_ixT (st_of (e _ _ hs)) h1⟩
theorem atI_map {α β : Type} (f : α → β) {xs : List α} {i : Int} {x : α} (h : atI xs i = some x) : atI (xs.map f) i = some (f x) := by
  unfold atI at h ⊢
  rw [List.length_map]
  cases q : ixN xs.length i with
  | none => rw [q] at h; cases h
  | some j =>
    rw [q] at h
    have h : xs[j]? = some x := h
    show (xs.map f)[j]? = _
    rw [List.getElem?_map, h]
    rfl
theorem eg_ixL {ds : List PyData} {d : PyData} {i : Int} (ha : EG m Γ ta (Dd K (.list ds))) (hb : EG m Γ tb (Dd K (.int i))) (h : atI ds i = some d) : EG m Γ (tOp (rIxL K) ta tb) (Dd K d) := eg_ixLF (eg_le ha dp_lst) hb (atI_map _ h)
theorem eg_ixT {ds : List PyData} {d : PyData} {i : Int} (ha : EG m Γ ta (Dd K (.tuple ds))) (hb : EG m Γ tb (Dd K (.int i))) (h : atI ds i = some d) : EG m Γ (tOp (rIxT K) ta tb) (Dd K d) := eg_ixTF (eg_le ha dp_tup) hb (atI_map _ h)
theorem eg_ixS {w : Str} {i : Nat} {c : Nat} (ha : EG m Γ ta (Dd K (.str w))) (hb : EG m Γ tb (Dd K (.int i))) (hl : w.length ≤ sizeLine) (h : (tl w)[i]? = some c) : EG m Γ (tOp rIxS ta tb) (Dd K (.str ⟨#[c]⟩)) :=
  eg_op ha hb fun F H x y e p1 p2 => by
    rw [dd_str p1, dd_int p2]
    exact ⟨_, .str _, rv_ixS' hl h⟩
/-- an item of an owned list -/
theorem eg_ixO {k : Nat} {φs : List FP} {i : Int} (hk : Γ[k]? = some (.oo (OwL φs))) (hb : EG m Γ tb (Dd K (.int i))) (h : atI φs i = some φ) : EG m Γ (tOp (rIxL K) (tVar k) tb) φ := fun F H σ E Q q => by
  obtain ⟨w, hw, p, o, e, nf, n0, ho, vs, eo, al⟩ := E.slot k _ hk
  subst e
  refine ⟨.ref p, hw, hb _ _ _ E _ fun y F2 H2 x2 E2 p2 => ?_⟩
  obtain ⟨w', hw', p', o', e', nf', _, ho', vs', eo', al'⟩ := E2.slot k _ hk
  rw [hw] at hw'
  cases hw'
  cases e'
  subst eo'
  rw [dd_int p2]
  obtain ⟨v, h1, h2⟩ := al_at al' h
  exact ⟨p, vs', i, v, rfl, rfl, sq_of ho', h1, q v F2 H2 x2 E2 h2⟩
theorem eg_lenO {k : Nat} {φs : List FP} (hk : Γ[k]? = some (.oo (OwL φs))) : EG m Γ (tCB (rLenS K) (tCons (tVar k) tNil)) (Dd K (.int φs.length)) := fun F H σ E Q q => by
  obtain ⟨w, hw, p, o, e, nf, n0, ho, vs, eo, al⟩ := E.slot k _ hk
  subst e eo
  refine ⟨.ref p, hw, p, vs, rfl, .inl (sq_of ho), ?_⟩
  rw [al_len al]
  exact q _ _ _ XF.refl E (.int _)
theorem eg_lenLF {φs : List FP} (ha : EG m Γ ta (LstF K φs)) : EG m Γ (tCB (rLenS K) (tCons ta tNil)) (Dd K (.int φs.length)) := fun F H σ E Q q => ha _ _ _ E _ fun v F1 H1 x1 E1 ⟨p, vs, e, hs, al⟩ => by
  subst e
  refine ⟨p, vs, rfl, .inl (sq_of (E1.fh _ _ hs)), ?_⟩
  rw [al_len al]
  exact q _ _ _ x1 E1 (.int _)
theorem eg_lenTF {φs : List FP} (ha : EG m Γ ta (TupF K φs)) : EG m Γ (tCB (rLenS K) (tCons ta tNil)) (Dd K (.int φs.length)) := fun F H σ E Q q => ha _ _ _ E _ fun v F1 H1 x1 E1 ⟨p, vs, e, hs, al⟩ => by
  subst e
  refine ⟨p, vs, rfl, .inr (st_of (E1.fh _ _ hs)), ?_⟩
  rw [al_len al]
  exact q _ _ _ x1 E1 (.int _)
theorem eg_lenL {ds : List PyData} (ha : EG m Γ ta (Dd K (.list ds))) : EG m Γ (tCB (rLenS K) (tCons ta tNil)) (Dd K (.int ds.length)) := by
  have := eg_lenLF (eg_le ha dp_lst)
  rwa [List.length_map] at this
theorem eg_lenT {ds : List PyData} (ha : EG m Γ ta (Dd K (.tuple ds))) : EG m Γ (tCB (rLenS K) (tCons ta tNil)) (Dd K (.int ds.length)) := by
  have := eg_lenTF (eg_le ha dp_tup)
  rwa [List.length_map] at this
/-! ### arguments, displays -/
theorem ag_nil : AG m Γ tNil [] := fun F H σ E Q q => q [] _ _ XF.refl E .nil
theorem Ags.mono {F F' : Hp} {vs : List V} {es : List En} (x : Ex F F') (h : Ags m F vs es) : Ags m F' vs es := Paired.mapP h fun _ _ r => r.mono x
theorem ag_cons {tr : TA} {es : List En} (h : EG m Γ te φ) (hr : AG m Γ tr es) : AG m Γ (tCons te tr) (.fx φ :: es) := fun F H σ E Q q =>
  h _ _ _ E _ fun v F1 H1 x1 E1 p1 => hr _ _ _ E1 _ fun vs F2 H2 x2 E2 p2 => q _ F2 H2 (x1.trans x2) E2 (.cons (φ.mono x2.f p1) p2)
theorem ag_dr {i : Nat} {tr : TA} {es : List En} (h : Γ[i]? = some .dr) (hr : AG m Γ tr es) : AG m Γ (tCons (tVar i) tr) (.dr :: es) := fun F H σ E Q q => by
  obtain ⟨w, hw, a, e, p⟩ := E.slot i _ h
  subst e
  exact ⟨_, hw, hr _ _ _ E _ fun vs F2 H2 x2 E2 p2 => q _ F2 H2 x2 E2 (.cons ⟨a, rfl, p⟩ p2)⟩
theorem ags_al {F : Hp} : ∀ {vs : List V} {φs : List FP}, Ags m F vs (φs.map .fx) → Al F vs φs
  | [], [], .nil => .nil
  | _ :: _, _ :: _, .cons h r => .cons h (ags_al r)
theorem eg_lst {ta : TA} {φs : List FP} (h : AG m Γ ta (φs.map .fx)) (hl : φs.length ≤ 100000) : EG m Γ (tLst ta) (LstF K φs) := fun F H σ E Q q =>
  h _ _ _ E _ fun vs F1 H1 x1 E1 p1 => by
    have al := ags_al p1
    have l := al_len al
    refine ⟨sz_of (by omega), fun p hp => ?_⟩
    obtain ⟨E2, x2⟩ := E1.new (o := .lst vs) (Ex.new hp) hp upd_same
    exact q _ _ _ (x1.trans (XF.new hp (fresh_F E1 hp) (Ex.new hp))) E2 ⟨p, vs, rfl, upd_same, al.mono x2⟩
theorem eg_tup {ta : TA} {φs : List FP} (h : AG m Γ ta (φs.map .fx)) (hl : φs.length ≤ 100000) : EG m Γ (tTup ta) (TupF K φs) := fun F H σ E Q q =>
  h _ _ _ E _ fun vs F1 H1 x1 E1 p1 => by
    have al := ags_al p1
    have l := al_len al
    refine ⟨sz_of (by omega), fun p hp => ?_⟩
    obtain ⟨E2, x2⟩ := E1.new (o := .tup vs) (Ex.new hp) hp upd_same
    exact q _ _ _ (x1.trans (XF.new hp (fresh_F E1 hp) (Ex.new hp))) E2 ⟨p, vs, rfl, upd_same, al.mono x2⟩
theorem map_fx {ds : List PyData} : (ds.map (Dd K)).map En.fx = ds.map fun d => .fx (Dd K d) := by rw [List.map_map]; rfl
theorem eg_lstD {ta : TA} {ds : List PyData} (h : AG m Γ ta (ds.map fun d => .fx (Dd K d))) (hl : ds.length ≤ 100000) : EG m Γ (tLst ta) (Dd K (.list ds)) :=
  eg_le (eg_lst (φs := ds.map (Dd K)) (by rw [map_fx]; exact h) (by rw [List.length_map]; exact hl)) lst_dp
theorem eg_tupD {ta : TA} {ds : List PyData} (h : AG m Γ ta (ds.map fun d => .fx (Dd K d))) (hl : ds.length ≤ 100000) : EG m Γ (tTup ta) (Dd K (.tuple ds)) :=
  eg_le (eg_tup (φs := ds.map (Dd K)) (by rw [map_fx]; exact h) (by rw [List.length_map]; exact hl)) tup_dp
/-! ### tests -/
theorem bg_le {P P' : Bool → Prop} (h : BG m Γ t P) (l : ∀ b, P b → P' b) : BG m Γ t P' := fun F H σ E Q q => h _ _ _ E Q fun b F1 H1 x1 E1 p => q b F1 H1 x1 E1 (l b p)
theorem bg_test {b : Bool} (h : EG m Γ te (Dd K (.bool b))) : BG m Γ (tTest te) (· = b) := fun F H σ E Q q => h _ _ _ E _ fun v F1 H1 x1 E1 p => ⟨b, dd_bl p, q b F1 H1 x1 E1 rfl⟩
theorem bg_testP {R : Bool → Prop} (h : EG m Γ te (FP.ex R fun b => Dd K (.bool b))) : BG m Γ (tTest te) R := fun F H σ E Q q => h _ _ _ E _ fun v F1 H1 x1 E1 ⟨b, hb, p⟩ => ⟨b, dd_bl p, q b F1 H1 x1 E1 hb⟩
theorem bg_and {P R : Bool → Prop} (h1 : BG m Γ t P) (h2 : P true → BG m Γ u R) : BG m Γ (tAnd t u) (fun c => ∃ a b, P a ∧ (a = true → R b) ∧ c = (a && b)) := fun F H σ E Q q => h1 _ _ _ E _ fun a F1 H1 x1 E1 p => by
  cases a with
  | true => exact h2 p _ _ _ E1 Q fun b F2 H2 x2 E2 p2 => q b F2 H2 (x1.trans x2) E2 ⟨true, b, p, fun _ => p2, rfl⟩
  | false => exact q false F1 H1 x1 E1 ⟨false, false, p, (fun h => by cases h), rfl⟩
theorem bg_or {P R : Bool → Prop} (h1 : BG m Γ t P) (h2 : P false → BG m Γ u R) : BG m Γ (tOr t u) (fun c => ∃ a b, P a ∧ (a = false → R b) ∧ c = (a || b)) := fun F H σ E Q q => h1 _ _ _ E _ fun a F1 H1 x1 E1 p => by
  cases a with
  | true => exact q true F1 H1 x1 E1 ⟨true, true, p, (fun h => by cases h), rfl⟩
  | false => exact h2 p _ _ _ E1 Q fun b F2 H2 x2 E2 p2 => q b F2 H2 (x1.trans x2) E2 ⟨false, b, p, fun _ => p2, rfl⟩
/-- tests of known outcome -/
theorem bg_andV {a b : Bool} (h1 : BG m Γ t (· = a)) (h2 : a = true → BG m Γ u (· = b)) : BG m Γ (tAnd t u) (· = (a && b)) := fun F H σ E Q q => h1 _ _ _ E _ fun a' F1 H1 x1 E1 p => by
  subst p
  cases a' with
  | true => exact h2 rfl _ _ _ E1 Q fun b' F2 H2 x2 E2 p2 => q b' F2 H2 (x1.trans x2) E2 (by rw [p2]; rfl)
  | false => exact q false F1 H1 x1 E1 rfl
theorem bg_orV {a b : Bool} (h1 : BG m Γ t (· = a)) (h2 : a = false → BG m Γ u (· = b)) : BG m Γ (tOr t u) (· = (a || b)) := fun F H σ E Q q => h1 _ _ _ E _ fun a' F1 H1 x1 E1 p => by
  subst p
  cases a' with
  | true => exact q true F1 H1 x1 E1 rfl
  | false => exact h2 rfl _ _ _ E1 Q fun b' F2 H2 x2 E2 p2 => q b' F2 H2 (x1.trans x2) E2 (by rw [p2]; rfl)
theorem bg_not {a : Bool} (h1 : BG m Γ t (· = a)) : BG m Γ (tNot t) (· = !a) := fun F H σ E Q q => h1 _ _ _ E _ fun a' F1 H1 x1 E1 p => q _ F1 H1 x1 E1 (by rw [p])
theorem bg_notP {P : Bool → Prop} (h1 : BG m Γ t P) : BG m Γ (tNot t) (fun b => P (!b)) := fun F H σ E Q q => h1 _ _ _ E _ fun a' F1 H1 x1 E1 p => q _ F1 H1 x1 E1 (by show P (!(!a')); rw [Bool.not_not]; exact p)
theorem bg_is {a b : Bool} (h : BG m Γ t (· = a)) (e : a = b) : BG m Γ t (· = b) := by rw [← e]; exact h
theorem eg_is {d d' : PyData} (h : EG m Γ te (Dd K d)) (e : d = d') : EG m Γ te (Dd K d') := by rw [← e]; exact h
theorem eg_if {P : Bool → Prop} (h : BG m Γ t P) (h1 : P true → EG m Γ ta ψ) (h2 : P false → EG m Γ tb ψ) : EG m Γ (tIf t ta tb) ψ := fun F H σ E Q q => h _ _ _ E _ fun b F1 H1 x1 E1 p => by
  cases b with
  | true => exact h1 p _ _ _ E1 Q fun v F2 H2 x2 => q v F2 H2 (x1.trans x2)
  | false => exact h2 p _ _ _ E1 Q fun v F2 H2 x2 => q v F2 H2 (x1.trans x2)
theorem eg_andV {a b : Bool} (h1 : EG m Γ ta (Dd K (.bool a))) (h2 : a = true → EG m Γ tb (Dd K (.bool b))) : EG m Γ (tAndV ta tb) (Dd K (.bool (a && b))) := fun F H σ E Q q => h1 _ _ _ E _ fun v F1 H1 x1 E1 p => by
  refine ⟨a, dd_bl p, ?_⟩
  cases a with
  | true => exact h2 rfl _ _ _ E1 Q fun v F2 H2 x2 => q v F2 H2 (x1.trans x2)
  | false => exact q _ F1 H1 x1 E1 (.bl false)
theorem eg_orV {a b : Bool} (h1 : EG m Γ ta (Dd K (.bool a))) (h2 : a = false → EG m Γ tb (Dd K (.bool b))) : EG m Γ (tOrV ta tb) (Dd K (.bool (a || b))) := fun F H σ E Q q => h1 _ _ _ E _ fun v F1 H1 x1 E1 p => by
  refine ⟨a, dd_bl p, ?_⟩
  cases a with
  | true => exact q _ F1 H1 x1 E1 (.bl true)
  | false => exact h2 rfl _ _ _ E1 Q fun v F2 H2 x2 => q v F2 H2 (x1.trans x2)
theorem eg_notV {a : Bool} (h1 : EG m Γ ta (Dd K (.bool a))) : EG m Γ (tNotV ta) (Dd K (.bool (!a))) := fun F H σ E Q q => h1 _ _ _ E _ fun v F1 H1 x1 E1 p => ⟨a, dd_bl p, q _ F1 H1 x1 E1 (.bl _)⟩
end
end SB

set_option maxHeartbeats 4000000
namespace SB
open PySem PySem.Spec PyProof.Rows L2
open TL (tl)
open Evl
section
variable {m : Fm} {F F' H H' : Hp} {σ σ2 : L2.St} {Γ Γ2 : List En}
theorem GE.nM (h : GE m F H σ Γ) {p : Addr} (h0 : m.H0 p = none) : m.M ≠ some p := fun e => by
  obtain ⟨_, _, o, ho⟩ := h.dr p e
  rw [h0] at ho
  cases ho
theorem GE.fresh0 (h : GE m F H σ Γ) {p : Addr} (hp : H p = none) : m.H0 p = none := by
  cases w : m.H0 p with
  | none => rfl
  | some u =>
    by_cases c : m.M = some p
    · obtain ⟨⟨ys, hy, _⟩, _⟩ := h.dr p c
      rw [hp] at hy
      cases hy
    · rw [h.frame p u c w] at hp
      cases hp
theorem GE.alone (h : GE m F H σ Γ) {p : Addr} (hp : H p = none) : ∀ (i : Nat) S, Γ[i]? = some (.oo S) → σ[i]? ≠ some (some (.ref p)) := fun i S e z => by
  obtain ⟨w, hw, q, o, e2, _, _, ho, _⟩ := h.slot i _ e
  rw [hw] at z
  rw [e2] at z
  cases z
  rw [hp] at ho
  cases ho
theorem getSet {α : Type} {xs : List α} {i j : Nat} {x y : α} (h : (xs.set i x)[j]? = some y) : (i = j ∧ x = y ∧ i < xs.length) ∨ (i ≠ j ∧ xs[j]? = some y) := by
  by_cases c : i = j
  · subst c
    by_cases l : i < xs.length
    · rw [List.getElem?_set_self l] at h
      exact .inl ⟨rfl, Option.some.inj h, l⟩
    · rw [List.set_eq_of_length_le (by omega)] at h
      have := (List.getElem?_eq_some_iff.mp h).1
      omega
  · rw [List.getElem?_set_ne c] at h
    exact .inr ⟨c, h⟩
/-- a slot is stored -/
theorem GE.set (h : GE m F H σ Γ) {i : Nat} {v : V} {e : En} (hs : SlotOk m F H (some v) e) (na : ∀ R p, e = .oo R → v = .ref p → ∀ (j : Nat) S, j ≠ i → Γ[j]? = some (.oo S) → σ[j]? ≠ some (some (.ref p))) : GE m F H (σ.set i (some v)) (Γ.set i e) := by
  refine ⟨h.fh, h.base, h.fresh, h.frame, h.dr, by rw [List.length_set, List.length_set]; exact h.len, fun j e' q => ?_, fun a b p R S hab hR hS ha hb => ?_⟩
  · rcases getSet q with ⟨rfl, rfl, l⟩ | ⟨n, q⟩
    · exact ⟨_, List.getElem?_set_self (by rw [h.len]; exact l), hs⟩
    · obtain ⟨w, hw, s⟩ := h.slot j e' q
      exact ⟨w, by rw [List.getElem?_set_ne n]; exact hw, s⟩
  · rcases getSet hR with ⟨ea, eR, l⟩ | ⟨n, hR⟩
    · subst ea
      rcases getSet hS with ⟨e2, _⟩ | ⟨_, hS⟩
      · exact hab e2
      · rw [List.getElem?_set_self (by rw [h.len]; exact l)] at ha
        rw [List.getElem?_set_ne hab] at hb
        exact na R p eR (Option.some.inj (Option.some.inj ha)) b S (Ne.symm hab) hS hb
    · rw [List.getElem?_set_ne n] at ha
      rcases getSet hS with ⟨eb, eS, l⟩ | ⟨n2, hS⟩
      · subst eb
        rw [List.getElem?_set_self (by rw [h.len]; exact l)] at hb
        exact na S p eS (Option.some.inj (Option.some.inj hb)) a R hab hR ha
      · rw [List.getElem?_set_ne n2] at hb
        exact h.sep a b p R S hab hR hS ha hb
theorem GE.setF (h : GE m F H σ Γ) {i : Nat} {v : V} {φ : FP} (hs : φ.p F v) : GE m F H (σ.set i (some v)) (Γ.set i (.fx φ)) := h.set ⟨v, rfl, hs⟩ fun R p e => by cases e
theorem GE.setU (h : GE m F H σ Γ) {i : Nat} {v : V} : GE m F H (σ.set i (some v)) (Γ.set i .un) := h.set trivial fun R p e => by cases e
/-- an owned object is changed -/
theorem GE.mut (h : GE m F H σ Γ) {i : Nat} {R R' : OP} {p : Addr} {o : HO} (hi : Γ[i]? = some (.oo R)) (hp : σ[i]? = some (some (.ref p))) (hr : R'.r F p o) : GE m F (upd H p o) σ (Γ.set i (.oo R')) := by
  obtain ⟨w, hw, p', o', e, nf, n0, ho, _⟩ := h.slot i _ hi
  rw [hp] at hw
  cases hw
  cases e
  have nM := h.nM n0
  refine ⟨h.fh.mut nf, h.base, h.fresh, fun q u c e => ?_, fun a ha => ?_, by rw [List.length_set]; exact h.len, fun j e q => ?_, fun a b q R1 S1 hab hR hS ha hb => ?_⟩
  · rw [upd_ne (fun z => by rw [z, n0] at e; cases e)]
    exact h.frame q u c e
  · obtain ⟨⟨xs, h1, h2⟩, h3⟩ := h.dr a ha
    exact ⟨⟨xs, by rw [upd_ne (fun z => nM (by rw [← z]; exact ha))]; exact h1, h2⟩, h3⟩
  · rcases getSet q with ⟨rfl, rfl, l⟩ | ⟨n, q⟩
    · exact ⟨_, hp, _, o, rfl, nf, n0, upd_same, hr⟩
    · obtain ⟨w, hw, s⟩ := h.slot j e q
      refine ⟨w, hw, ?_⟩
      cases e with
      | fx φ => exact s
      | dr => exact s
      | un => trivial
      | oo S =>
        obtain ⟨p2, o2, e2, nf2, n02, ho2, r2⟩ := s
        refine ⟨p2, o2, e2, nf2, n02, ?_, r2⟩
        rw [upd_ne (fun z => by
          subst e2
          rw [z] at hw
          exact h.sep i j p R S n hi q hp hw)]
        exact ho2
  · have f : ∀ {k : Nat} {T : OP}, (Γ.set i (.oo R'))[k]? = some (.oo T) → ∃ T', Γ[k]? = some (.oo T') := fun {k T} e => by
      rcases getSet e with ⟨rfl, _, _⟩ | ⟨_, e⟩
      · exact ⟨_, hi⟩
      · exact ⟨_, e⟩
    obtain ⟨R2, hR⟩ := f hR
    obtain ⟨S2, hS⟩ := f hS
    exact h.sep a b q R2 S2 hab hR hS ha hb
/-- an object that is ours alone is frozen -/
theorem GE.frz (h : GE m F H σ Γ) {p : Addr} {o : HO} (nf : F p = none) (ho : H p = some o) (n0 : m.H0 p = none) (na : ∀ (i : Nat) S, Γ[i]? = some (.oo S) → σ[i]? ≠ some (some (.ref p))) : GE m (upd F p o) H σ Γ ∧ Ex F (upd F p o) := by
  have x : Ex F (upd F p o) := Ex.new nf
  have nM := h.nM n0
  refine ⟨⟨fun q u e => ?_, h.base.trans x, fun q u e n => ?_, h.frame, fun a ha => ?_, h.len, fun j e q => ?_, h.sep⟩, x⟩
  · by_cases c : q = p
    · subst c
      rw [upd_same] at e
      rw [ho]
      exact e
    · rw [upd_ne c] at e
      exact h.fh q u e
  · by_cases c : q = p
    · subst c
      exact n0
    · rw [upd_ne c] at e
      exact h.fresh q u e n
  · obtain ⟨h1, h2, h3⟩ := h.dr a ha
    exact ⟨h1, by rw [upd_ne (fun z => nM (by rw [← z]; exact ha))]; exact h2, h3⟩
  · obtain ⟨w, hw, s⟩ := h.slot j e q
    refine ⟨w, hw, ?_⟩
    cases e with
    | fx φ =>
      obtain ⟨v, e, r⟩ := s
      exact ⟨v, e, φ.mono x r⟩
    | dr => exact s
    | un => trivial
    | oo S =>
      obtain ⟨p2, o2, e2, nf2, n02, ho2, r2⟩ := s
      refine ⟨p2, o2, e2, ?_, n02, ho2, S.mono x r2⟩
      rw [upd_ne (fun z => by
        subst e2
        rw [z] at hw
        exact na j S q hw)]
      exact nf2
/-- less is known of a slot -/
theorem GE.weak (h : GE m F H σ Γ) {i : Nat} {e : En} (k : ∀ e0 w, Γ[i]? = some e0 → SlotOk m F H w e0 → SlotOk m F H w e) (no : ∀ R, e ≠ .oo R) : GE m F H σ (Γ.set i e) := by
  refine ⟨h.fh, h.base, h.fresh, h.frame, h.dr, by rw [List.length_set]; exact h.len, fun j e' q => ?_, fun a b p R S hab hR hS ha hb => ?_⟩
  · rcases getSet q with ⟨rfl, rfl, l⟩ | ⟨n, q⟩
    · have e0 := List.getElem?_eq_getElem l
      obtain ⟨w, hw, s⟩ := h.slot i _ e0
      exact ⟨w, hw, k _ w e0 s⟩
    · exact h.slot j e' q
  · have f : ∀ {k : Nat} {T : OP}, (Γ.set i e)[k]? = some (.oo T) → Γ[k]? = some (.oo T) := fun {k T} z => by
      rcases getSet z with ⟨_, q, _⟩ | ⟨_, z⟩
      · exact absurd q (no T)
      · exact z
    exact h.sep a b p R S hab (f hR) (f hS) ha hb
end
theorem back_none {m : Fm} {F F' H H' : Hp} {p : Addr} (x : XF m F H F' H') (h : H' p = none) : H p = none := by
  cases z : H p with
  | none => rfl
  | some u =>
    obtain ⟨u', hu⟩ := x.t p u z
    rw [h] at hu
    cases hu
/-! ### what gives a new object of its own -/
def EO (m : Fm) (Γ : List En) (te : TE) (R : OP) : Prop := ∀ (F H : Hp) (σ : L2.St), GE m F H σ Γ → ∀ Q : VK, (∀ p o F1 H1, XF m F H F1 H1 → GE m F1 H1 σ Γ → F1 p = none → H p = none → H1 p = some o → m.H0 p = none → R.r F1 p o → (∀ (i : Nat) S, Γ[i]? = some (.oo S) → σ[i]? ≠ some (some (.ref p))) → Q (.ref p) H1) → te σ H Q
section
variable {m : Fm} {K : PySem.W.Frag} {Γ Γ' : List En} {ta tb te : TE} {t u : TT} {φ φ1 φ2 ψ : FP} {r : R2} {R : OP} {tu tw tz : TS} {po : Po} {g : TG}
theorem eo_new {F H H1 : Hp} {σ : L2.St} {p : Addr} {o : HO} (E : GE m F H σ Γ) (hp : H p = none) (x : Ex H H1) (ho : H1 p = some o) {Q : VK} (hr : R.r F p o) (q : ∀ p o F1 H1, XF m F H F1 H1 → GE m F1 H1 σ Γ → F1 p = none → H p = none → H1 p = some o → m.H0 p = none → R.r F1 p o → (∀ (i : Nat) S, Γ[i]? = some (.oo S) → σ[i]? ≠ some (some (.ref p))) → Q (.ref p) H1) : Q (.ref p) H1 :=
  q p o F H1 (XF.refl.grow x) (E.grow x) (fresh_F E hp) hp ho (E.fresh0 hp) hr (E.alone hp)
theorem eo_le {R' : OP} (h : EO m Γ te R) (l : ∀ {F p o}, R.r F p o → R'.r F p o) : EO m Γ te R' := fun F H σ E Q q => h F H σ E Q fun p o F1 H1 x E1 nf hp ho n0 hr na => q p o F1 H1 x E1 nf hp ho n0 (l hr) na
/-- and is frozen -/
theorem eg_eo {φs : List FP} (h : EO m Γ te (OwL φs)) : EG m Γ te (LstF K φs) := fun F H σ E Q q => h F H σ E Q fun p o F1 H1 x E1 nf hp ho n0 ⟨vs, eo, al⟩ na => by
  subst eo
  obtain ⟨E2, x2⟩ := E1.frz nf ho n0 na
  exact q _ _ H1 (x.frz hp nf) E2 ⟨p, vs, rfl, upd_same, al.mono x2⟩
theorem eg_eoD {ds : List PyData} (h : EO m Γ te (OwL (ds.map (Dd K)))) : EG m Γ te (Dd K (.list ds)) := eg_le (eg_eo h) lst_dp
theorem eo_lst {ta : TA} {φs : List FP} (h : AG m Γ ta (φs.map .fx)) (hl : φs.length ≤ 100000) : EO m Γ (tLst ta) (OwL φs) := fun F H σ E Q q =>
  h F H σ E _ fun vs F1 H1 x1 E1 p1 => by
    have al := ags_al p1
    have l := al_len al
    exact ⟨sz_of (by omega), fun p hp => eo_new (R := OwL φs) (o := .lst vs) E1 hp (Ex.new hp) upd_same ⟨vs, rfl, al⟩ fun p o F2 H2 x2 E2 nf hp' => q p o F2 H2 (x1.trans x2) E2 nf (back_none x1 hp')⟩
/-- list(xs) -/
theorem eo_list {φs : List FP} (h : EG m Γ te (LstF K φs)) : EO m Γ (tCB (rListS K) (tCons te tNil)) (OwL φs) := fun F H σ E Q q =>
  h F H σ E _ fun v F1 H1 x1 E1 ⟨a, vs, e, hs, al⟩ => by
    subst e
    exact ⟨a, vs, rfl, .inl (sq_of (E1.fh _ _ hs)), fun p hp => eo_new (R := OwL φs) (o := .lst vs) E1 hp (Ex.new hp) upd_same ⟨vs, rfl, al⟩ fun p o F2 H2 x2 E2 nf hp' => q p o F2 H2 (x1.trans x2) E2 nf (back_none x1 hp')⟩
theorem eo_listT {φs : List FP} (h : EG m Γ te (TupF K φs)) : EO m Γ (tCB (rListS K) (tCons te tNil)) (OwL φs) := fun F H σ E Q q =>
  h F H σ E _ fun v F1 H1 x1 E1 ⟨a, vs, e, hs, al⟩ => by
    subst e
    exact ⟨a, vs, rfl, .inr (st_of (E1.fh _ _ hs)), fun p hp => eo_new (R := OwL φs) (o := .lst vs) E1 hp (Ex.new hp) upd_same ⟨vs, rfl, al⟩ fun p o F2 H2 x2 E2 nf hp' => q p o F2 H2 (x1.trans x2) E2 nf (back_none x1 hp')⟩
/-! ### statements -/
theorem sg_seq {N : List En → Prop} (h : SG m Γ tu { po with nx := N }) (k : ∀ Γ', N Γ' → SG m Γ' tz po) : SG m Γ (tSeq tu tz) po := fun F H σ E D q =>
  h F H σ E { D with nx := tz D } ⟨fun σ' F' H' Γ' x E' n => k Γ' n F' H' σ' E' D (q.mono x), q.rt, q.bk, q.ct⟩
theorem sg_next (h : po.nx Γ) : SG m Γ tNext po := fun F H σ E D q => q.nx σ F H Γ (Ex.refl F) E h
theorem sg_break (h : po.bk Γ) : SG m Γ tBreak po := fun F H σ E D q => q.bk σ F H Γ (Ex.refl F) E h
theorem sg_cont (h : po.ct Γ) : SG m Γ tCont po := fun F H σ E D q => q.ct σ F H Γ (Ex.refl F) E h
theorem sg_ret (h : EG m Γ te po.rt) : SG m Γ (tRet te) po := fun F H σ E D q => h F H σ E _ fun v F1 H1 x E1 p => q.rt σ F1 H1 Γ v x.f E1 p
theorem sg_if {P : Bool → Prop} (h : BG m Γ t P) (h1 : P true → SG m Γ tu po) (h2 : P false → SG m Γ tw po) : SG m Γ (tIfS t tu tw) po := fun F H σ E D q => h F H σ E _ fun b F1 H1 x E1 p => by
  cases b with
  | true => exact h1 p F1 H1 σ E1 D (q.mono x.f)
  | false => exact h2 p F1 H1 σ E1 D (q.mono x.f)
theorem q_ifG {P : Bool → Prop} (h : BG m Γ t P) (h1 : P true → SG m Γ (tSeq tu tz) po) (h2 : P false → SG m Γ (tSeq tw tz) po) : SG m Γ (tSeq (tIfS t tu tw) tz) po := fun F H σ E D q => h F H σ E _ fun b F1 H1 x E1 p => by
  cases b with
  | true => exact h1 p F1 H1 σ E1 D (q.mono x.f)
  | false => exact h2 p F1 H1 σ E1 D (q.mono x.f)
theorem q_whenG {P : Bool → Prop} (h : BG m Γ t P) (h1 : P true → SG m Γ (tSeq tu tz) po) (h2 : P false → SG m Γ tz po) : SG m Γ (tSeq (tIfS t tu tNext) tz) po := q_ifG h h1 h2
/-- if ..: return e -/
theorem q_retG {te : TE} {P : Bool → Prop} (h : BG m Γ t P) (h1 : P true → EG m Γ te po.rt) (h2 : P false → SG m Γ tz po) : SG m Γ (tSeq (tIfS t (tRet te) tNext) tz) po := q_ifG h (fun p F H σ E D q => sg_ret (po := po) (h1 p) F H σ E D q) h2
/-! ### targets -/
def TGo (m : Fm) (Γ : List En) (g : TG) (φ : FP) (Γ' : List En) : Prop := ∀ (F H : Hp) (σ : L2.St), GE m F H σ Γ → ∀ v, φ.p F v → ∀ Q : L2.St → Hp → Prop, (∀ σ' F' H', Ex F F' → GE m F' H' σ' Γ' → Q σ' H') → g v σ H Q
def TGos (m : Fm) (Γ : List En) (g : TGs) (φs : List FP) (Γ' : List En) : Prop := ∀ (F H : Hp) (σ : L2.St), GE m F H σ Γ → ∀ vs, Al F vs φs → ∀ Q : L2.St → Hp → Prop, (∀ σ' F' H', Ex F F' → GE m F' H' σ' Γ' → Q σ' H') → g vs σ H Q
theorem to_name {i : Nat} : TGo m Γ (gName i) φ (Γ.set i (.fx φ)) := fun F H σ E v p Q q => q _ F H (Ex.refl F) (E.setF p)
/-- _ and the like: nothing is known of it from then on -/
theorem to_any {i : Nat} : TGo m Γ (gName i) φ (Γ.set i .un) := fun F H σ E v p Q q => q _ F H (Ex.refl F) E.setU
theorem tos_nil : TGos m Γ gNil [] Γ := fun F H σ E vs p Q q => by
  cases p
  exact ⟨rfl, q σ F H (Ex.refl F) E⟩
theorem tos_cons {gs : TGs} {φs : List FP} {Γ1 Γ2 : List En} (h : TGo m Γ g φ Γ1) (hs : TGos m Γ1 gs φs Γ2) : TGos m Γ (gCons g gs) (φ :: φs) Γ2 := fun F H σ E vs p Q q => by
  cases p with
  | @cons v _ vs _ h1 h2 => exact ⟨v, vs, rfl, h F H σ E v h1 _ fun σ' F' H' x E' => hs F' H' σ' E' vs (Al.mono x h2) Q fun σ2 F2 H2 x2 => q σ2 F2 H2 (x.trans x2)⟩
theorem to_tup {gs : TGs} {φs : List FP} {n : Nat} (hs : TGos m Γ gs φs Γ') (hn : φs.length = n) : TGo m Γ (gTup K n gs) (TupF K φs) Γ' := fun F H σ E v ⟨p, vs, e, hp, al⟩ Q q =>
  ⟨p, vs, e, st_of (E.fh _ _ hp), (al_len al).trans hn, hs F H σ E vs al Q q⟩
theorem to_unl {gs : TGs} {φs : List FP} {n : Nat} (hs : TGos m Γ gs φs Γ') (hn : φs.length = n) : TGo m Γ (gUnl K n gs) (LstF K φs) Γ' := fun F H σ E v ⟨p, vs, e, hp, al⟩ Q q =>
  ⟨p, vs, e, sq_of (E.fh _ _ hp), (al_len al).trans hn, hs F H σ E vs al Q q⟩
theorem to_le {φ' : FP} (h : TGo m Γ g φ' Γ') (l : φ.le φ') : TGo m Γ g φ Γ' := fun F H σ E v p => h F H σ E v (l p)
/-- xs[i] = .., xs owned -/
theorem to_setO {k : Nat} {φs : List FP} {j : Nat} (hk : Γ[k]? = some (.oo (OwL φs))) (hb : EG m Γ tb (Dd K (.int (j : Int)))) (hj : j < φs.length) : TGo m Γ (gSub (tVar k) tb rSetL) φ (Γ.set k (.oo (OwL (φs.set j φ)))) := fun F H σ E v pv Q q => by
  obtain ⟨w, hw, p, o, e, nf, n0, ho, vs, eo, al⟩ := E.slot k _ hk
  subst e
  refine ⟨_, hw, hb F H σ E _ fun y F2 H2 x2 E2 p2 => ?_⟩
  obtain ⟨w', hw', p', o', e', nf', _, ho', vs', eo', al'⟩ := E2.slot k _ hk
  rw [hw] at hw'
  cases hw'
  cases e'
  subst eo'
  rw [dd_int p2]
  exact ⟨p, vs', (j : Int), j, rfl, rfl, ho', ixN_nat (by rw [al_len al']; exact hj), q σ F2 _ x2.f (E2.mut hk hw ⟨_, rfl, al_set (φ.mono x2.f pv) j al'⟩)⟩
theorem q_asgT (h : EG m Γ te φ) (ht : TGo m Γ g φ Γ') (k : SG m Γ' tz po) : SG m Γ (tSeq (tAsg te g) tz) po := fun F H σ E D q =>
  h F H σ E _ fun v F1 H1 x E1 p => ht F1 H1 σ E1 v p _ fun σ' F' H' x2 E2 => k F' H' σ' E2 D (q.mono (x.f.trans x2))
theorem q_asgG {i : Nat} (h : EG m Γ te φ) (k : SG m (Γ.set i (.fx φ)) tz po) : SG m Γ (tSeq (tAsg te (gName i)) tz) po := q_asgT h to_name k
theorem q_asgO {i : Nat} (h : EO m Γ te R) (k : SG m (Γ.set i (.oo R)) tz po) : SG m Γ (tSeq (tAsg te (gName i)) tz) po := fun F H σ E D q =>
  h F H σ E _ fun p o F1 H1 x E1 nf hp ho n0 hr na => k F1 H1 _ (E1.set ⟨p, o, rfl, nf, n0, ho, hr⟩ fun R' p' e e2 j S _ hS hj => by
    cases e2
    exact na j S hS hj) D (q.mono x.f)
theorem q_dropG (h : EG m Γ te φ) (k : SG m Γ tz po) : SG m Γ (tSeq (tDrop te) tz) po := fun F H σ E D q => h F H σ E _ fun v F1 H1 x E1 p => k F1 H1 σ E1 D (q.mono x.f)
/-- xs.append(e), xs owned -/
theorem q_appG {i : Nat} {φs : List FP} (hi : Γ[i]? = some (.oo (OwL φs))) (h : EG m Γ te φ) (hz : φs.length < 100000) (k : SG m (Γ.set i (.oo (OwL (φs ++ [φ])))) tz po) : SG m Γ (tSeq (tDrop (tBM K "list" rAppend (tVar i) (tCons te tNil))) tz) po := fun F H σ E D q => by
  obtain ⟨w, hw, p, o, e, nf, n0, ho, vs, eo, al⟩ := E.slot i _ hi
  subst e eo
  refine ⟨_, hw, Or.inl ⟨rfl, vs, sq_of ho⟩, h F H σ E _ fun v F1 H1 x E1 pv => ?_⟩
  obtain ⟨w', hw', p', o', e', nf', _, ho', vs', eo', al'⟩ := E1.slot i _ hi
  rw [hw] at hw'
  cases hw'
  cases e'
  subst eo'
  refine ⟨p, vs', v, rfl, rfl, ho', sz_lt (by rw [al_len al']; exact hz), ?_⟩
  exact k F1 _ σ (E1.mut hi hw ⟨_, rfl, al_app al' (.cons pv .nil)⟩) D (q.mono x.f)
/-- xs.extend(e) -/
theorem q_extG {i : Nat} {φs ψs : List FP} (hi : Γ[i]? = some (.oo (OwL φs))) (h : EO m Γ te (OwL ψs)) (hz : φs.length + ψs.length < 100000) (k : SG m (Γ.set i (.oo (OwL (φs ++ ψs)))) tz po) : SG m Γ (tSeq (tDrop (tBM K "list" rExtend (tVar i) (tCons te tNil))) tz) po := fun F H σ E D q => by
  obtain ⟨w, hw, p, o, e, nf, n0, ho, vs, eo, al⟩ := E.slot i _ hi
  subst e eo
  refine ⟨_, hw, Or.inl ⟨rfl, vs, sq_of ho⟩, h F H σ E _ fun b ob F1 H1 x E1 nfb _ hb n0b ⟨ys, eb, aly⟩ na => ?_⟩
  subst eb
  obtain ⟨w', hw', p', o', e', nf', _, ho', vs', eo', al'⟩ := E1.slot i _ hi
  rw [hw] at hw'
  cases hw'
  cases e'
  subst eo'
  refine ⟨p, b, vs', ys, rfl, rfl, ho', hb, Nat.le_of_lt (sz_lt (by rw [al_len al', al_len aly]; exact hz)), ?_⟩
  exact k F1 _ σ (E1.mut hi hw ⟨_, rfl, al_app al' aly⟩) D (q.mono x.f)
/-- x += e -/
theorem q_augG {i : Nat} {f : Int → Int → Int} {a b : Int} (hx : Γ[i]? = some (.fx (Dd K (.int a)))) (h : EG m Γ te (Dd K (.int b))) (k : SG m (Γ.set i (.fx (Dd K (.int (f a b))))) tz po) : SG m Γ (tSeq (tAug i te (ipI f)) tz) po := fun F H σ E D q => by
  obtain ⟨w, hw, v, e, p⟩ := E.slot i _ hx
  subst e
  rw [dd_int p] at hw
  refine ⟨_, hw, h F H σ E _ fun v F1 H1 x E1 p => ⟨a, b, rfl, dd_int p, ?_⟩⟩
  exact k F1 H1 _ (E1.setF (Dq.int _)) D (q.mono x.f)
/-- what is owned is frozen -/
theorem sg_frz {i : Nat} {φs : List FP} {ts : TS} (hi : Γ[i]? = some (.oo (OwL φs))) (k : SG m (Γ.set i (.fx (LstF K φs))) ts po) : SG m Γ ts po := fun F H σ E D q => by
  obtain ⟨w, hw, p, o, e, nf, n0, ho, vs, eo, al⟩ := E.slot i _ hi
  subst e eo
  have E1 : GE m F H σ (Γ.set i .un) := E.weak (fun _ _ _ _ => trivial) (fun R e => by cases e)
  obtain ⟨E2, x2⟩ := E1.frz nf ho n0 fun j S hS hj => by
    rcases getSet hS with ⟨_, e, _⟩ | ⟨n, hS⟩
    · cases e
    · exact E.sep i j p _ S n hi hS hw hj
  have E3 : GE m (upd F p (.lst vs)) H (σ.set i (some (.ref p))) ((Γ.set i .un).set i (.fx (LstF K φs))) := E2.setF ⟨p, vs, rfl, upd_same, al.mono x2⟩
  have es : σ.set i (some (.ref p)) = σ := by
    apply List.ext_getElem?
    intro j
    by_cases c : i = j
    · subst c
      rw [hw, List.getElem?_set_self (List.getElem?_eq_some_iff.mp hw).1]
    · rw [List.getElem?_set_ne c]
  rw [es, List.set_set] at E3
  exact k _ H σ E3 D (q.mono x2)
/-- one of many: each is gone on with -/
theorem sg_case {i : Nat} {α : Type} {S : α → Prop} {f : α → FP} {ts : TS} (hi : Γ[i]? = some (.fx (FP.ex S f))) (k : ∀ a, S a → SG m (Γ.set i (.fx (f a))) ts po) : SG m Γ ts po := fun F H σ E D q => by
  obtain ⟨w, hw, v, e, a, ha, p⟩ := E.slot i _ hi
  subst e
  have E3 := E.setF (i := i) p
  have es : σ.set i (some v) = σ := by
    apply List.ext_getElem?
    intro j
    by_cases c : i = j
    · subst c
      rw [hw, List.getElem?_set_self (List.getElem?_eq_some_iff.mp hw).1]
    · rw [List.getElem?_set_ne c]
  rw [es] at E3
  exact k a ha F H σ E3 D q
theorem sg_le {i : Nat} {ts : TS} (hi : Γ[i]? = some (.fx φ)) (l : φ.le ψ) (k : SG m (Γ.set i (.fx ψ)) ts po) : SG m Γ ts po := fun F H σ E D q =>
  k F H σ (E.weak (fun e0 w e s => by
    rw [hi] at e
    cases e
    obtain ⟨v, e, p⟩ := s
    exact ⟨v, e, l p⟩) (fun R e => by cases e)) D q
end
end SB

set_option maxHeartbeats 4000000
namespace SB
open PySem PySem.Spec PyProof.Rows L2
open TL (tl)
open Evl
/-! ### what is walked -/
structure IT (m : Fm) (Γ : List En) (wi : TI) (items : List FP) : Prop where
  run : ∀ (F H : Hp) (σ : L2.St), GE m F H σ Γ → ∀ R : It → Hp → Prop, (∀ (J : It) (G : Hp → Prop) (Y : Nat → Hp → V → Hp → Prop) F1 H1, XF m F H F1 H1 → GE m F1 H1 σ Γ → Walk J items.length G Y → (∀ F' H', Ex F1 F' → Ex F' H' → G H') →
    (∀ (i : Nat) φ x F' H2 H2', items[i]? = some φ → Ex F1 F' → Ex F' H2 → Y i H2 x H2' → ∃ F'', XF m F' H2 F'' H2' ∧ φ.p F'' x ∧ ∀ σ' Γ', GE m F' H2 σ' Γ' → GE m F'' H2' σ' Γ') → R J H1) → wi σ H R
section
variable {m : Fm} {K : PySem.W.Frag} {Γ Γ' : List En} {ta tb te : TE} {t u : TT} {φ φ1 φ2 ψ : FP} {r : R2} {R : OP} {tu tw tz : TS} {po : Po} {g : TG} {wi : TI} {items : List FP}
theorem it_list {φs : List FP} (h : EG m Γ te (LstF K φs)) : IT m Γ (iList K te) φs := ⟨fun F H σ E R k => h F H σ E _ fun v F1 H1 x E1 ⟨p, vs, e, hs, al⟩ => by
  subst e
  refine ⟨p, rfl, ⟨vs, sq_of (E1.fh _ _ hs)⟩, k (Itl K p) (fun H => SqL K H p vs) (YAt vs) F1 H1 x E1 (by rw [← al_len al]; exact walk_list) (fun F' H' a b => sq_of ((a.trans b) _ _ hs)) fun i φ x F' H2 H2' hi a b y => ?_⟩
  obtain ⟨rfl, hx⟩ := y
  obtain ⟨φ', h1, h2⟩ := al_getF al hx
  rw [hi] at h1
  cases h1
  exact ⟨F', XF.refl, φ.mono a h2, fun _ _ g => g⟩⟩
theorem it_tup {φs : List FP} (h : EG m Γ te (TupF K φs)) : IT m Γ (iTup K te) φs := ⟨fun F H σ E R k => h F H σ E _ fun v F1 H1 x E1 ⟨p, vs, e, hs, al⟩ => by
  subst e
  refine ⟨p, rfl, ⟨vs, st_of (E1.fh _ _ hs)⟩, k (Itt K p) (fun H => SqT K H p vs) (YAt vs) F1 H1 x E1 (by rw [← al_len al]; exact walk_tup) (fun F' H' a b => st_of ((a.trans b) _ _ hs)) fun i φ x F' H2 H2' hi a b y => ?_⟩
  obtain ⟨rfl, hx⟩ := y
  obtain ⟨φ', h1, h2⟩ := al_getF al hx
  rw [hi] at h1
  cases h1
  exact ⟨F', XF.refl, φ.mono a h2, fun _ _ g => g⟩⟩
def rngF (K : PySem.W.Frag) (lo : Int) (n : Nat) : List FP := (List.range n).map fun (i : Nat) => Dd K (.int (lo + (i : Int)))
theorem rngF_len {lo : Int} {n : Nat} : (rngF K lo n).length = n := by
  unfold rngF
  rw [List.length_map, List.length_range]
theorem rngF_at {lo : Int} {n i : Nat} (h : i < n) : (rngF K lo n)[i]? = some (Dd K (.int (lo + (i : Int)))) := by
  unfold rngF
  rw [List.getElem?_map, List.getElem?_range h]
  rfl
theorem rngF_of {lo : Int} {n i : Nat} (h : (rngF K lo n)[i]? = some φ) : i < n ∧ φ = Dd K (.int (lo + (i : Int))) := by
  have l := (List.getElem?_eq_some_iff.mp h).1
  rw [rngF_len] at l
  rw [rngF_at l] at h
  exact ⟨l, (Option.some.inj h).symm⟩
theorem ags1 {F : Hp} {vs : List V} {e : En} (h : Ags m F vs [e]) : ∃ v, vs = [v] ∧ ArgOk m F v e := by
  cases h with
  | cons h t =>
    cases t
    exact ⟨_, rfl, h⟩
theorem ags2 {F : Hp} {vs : List V} {e f : En} (h : Ags m F vs [e, f]) : ∃ v w, vs = [v, w] ∧ ArgOk m F v e ∧ ArgOk m F w f := by
  cases h with
  | cons h t =>
    obtain ⟨w, rfl, h2⟩ := ags1 t
    exact ⟨_, w, rfl, h, h2⟩
theorem ags3 {F : Hp} {vs : List V} {e f g : En} (h : Ags m F vs [e, f, g]) : ∃ v w x, vs = [v, w, x] ∧ ArgOk m F v e ∧ ArgOk m F w f ∧ ArgOk m F x g := by
  cases h with
  | cons h t =>
    obtain ⟨w, x, rfl, h2⟩ := ags2 t
    exact ⟨_, w, x, rfl, h, h2⟩
theorem it_range {J : Int → Nat → It} {lo : Int} {n : Nat} {F1 H1 F H : Hp} {σ : L2.St} (x : XF m F H F1 H1) (E1 : GE m F1 H1 σ Γ) {R : It → Hp → Prop}
    (k : ∀ (J : It) (G : Hp → Prop) (Y : Nat → Hp → V → Hp → Prop) F1 H1, XF m F H F1 H1 → GE m F1 H1 σ Γ → Walk J (rngF K lo n).length G Y → (∀ F' H', Ex F1 F' → Ex F' H' → G H') →
    (∀ (i : Nat) φ x F' H2 H2', (rngF K lo n)[i]? = some φ → Ex F1 F' → Ex F' H2 → Y i H2 x H2' → ∃ F'', XF m F' H2 F'' H2' ∧ φ.p F'' x ∧ ∀ σ' Γ', GE m F' H2 σ' Γ' → GE m F'' H2' σ' Γ') → R J H1) : R (Itr lo n) H1 := by
  refine k (Itr lo n) (fun _ => True) (YFn fun i => .int (lo + i)) F1 H1 x E1 (by rw [rngF_len]; exact walk_range) (fun _ _ _ _ => trivial) fun i φ x F' H2 H2' hi a b y => ?_
  obtain ⟨rfl, rfl⟩ := y
  obtain ⟨_, rfl⟩ := rngF_of hi
  exact ⟨F', XF.refl, Dq.int _, fun _ _ g => g⟩
theorem it_rng1 {ta : TA} {n : Nat} (h : AG m Γ ta [.fx (Dd K (.int (n : Int)))]) (hn : n ≤ 1000000) : IT m Γ (iRng1 ta) (rngF K 0 n) := ⟨fun F H σ E R k => h F H σ E _ fun vs F1 H1 x E1 p => by
  obtain ⟨v, rfl, h1⟩ := ags1 p
  refine ⟨(n : Int), by rw [dd_int h1], by omega, by omega, ?_⟩
  rw [Int.toNat_natCast]
  exact it_range (J := Itr) x E1 k⟩
theorem it_rng2 {ta : TA} {lo hi : Int} {n : Nat} (h : AG m Γ ta [.fx (Dd K (.int lo)), .fx (Dd K (.int hi))]) (b : -(2 ^ 62) ≤ lo ∧ lo < 2 ^ 62 ∧ -(2 ^ 62) ≤ hi ∧ hi < 2 ^ 62) (hn : (hi - lo).toNat = n) : IT m Γ (iRng2 ta) (rngF K lo n) := ⟨fun F H σ E R k => h F H σ E _ fun vs F1 H1 x E1 p => by
  obtain ⟨v, w, rfl, h1, h2⟩ := ags2 p
  refine ⟨lo, hi, by rw [dd_int h1, dd_int h2], b, ?_⟩
  rw [hn]
  exact it_range (J := Itr) x E1 k⟩
/-- a new pair is frozen -/
theorem pair_new {F' H2 H2' : Hp} {x : V} {y z : V} {φ1 φ2 : FP} (b : Ex F' H2) (h1 : φ1.p F' y) (h2 : φ2.p F' z) {T : Addr} (hx : x = .ref T) (hT : H2 T = none) (hH : H2' = upd H2 T (.tup [y, z])) :
    ∃ F'', XF m F' H2 F'' H2' ∧ (TupF K [φ1, φ2]).p F'' x ∧ ∀ σ' Γ', GE m F' H2 σ' Γ' → GE m F'' H2' σ' Γ' := by
  subst hx hH
  have nf := fresh_back b hT
  have x2 : Ex F' (upd F' T (.tup [y, z])) := Ex.new nf
  exact ⟨upd F' T (.tup [y, z]), XF.new hT nf (Ex.new hT), ⟨T, [y, z], rfl, upd_same, .cons (φ1.mono x2 h1) (.cons (φ2.mono x2 h2) .nil)⟩, fun σ' Γ' g => (g.new (o := .tup [y, z]) (Ex.new hT) hT upd_same).1⟩
def enumF (K : PySem.W.Frag) (φs : List FP) : List FP := φs.mapIdx fun i φ => TupF K [Dd K (.int (i : Int)), φ]
theorem enumF_len {φs : List FP} : (enumF K φs).length = φs.length := List.length_mapIdx
theorem enumF_of {φs : List FP} {i : Nat} (h : (enumF K φs)[i]? = some ψ) : ∃ φ, φs[i]? = some φ ∧ ψ = TupF K [Dd K (.int (i : Int)), φ] := by
  unfold enumF at h
  rw [List.getElem?_mapIdx] at h
  cases q : φs[i]? with
  | none => rw [q] at h; cases h
  | some φ =>
    rw [q] at h
    exact ⟨φ, rfl, (Option.some.inj h).symm⟩
theorem it_enum {ta : TA} {φs : List FP} (h : AG m Γ ta [.fx (LstF K φs)]) : IT m Γ (iEnum K ta) (enumF K φs) := ⟨fun F H σ E R k => h F H σ E _ fun vs F1 H1 x E1 p => by
  obtain ⟨v, rfl, a, ws, e, hs, al⟩ := ags1 p
  subst e
  refine ⟨a, ws, rfl, sq_of (E1.fh _ _ hs), k (Ite K a) (fun H => SqL K H a ws) (YPair (fun i => some (.int (i : Nat))) (fun i => ws[i]?)) F1 H1 x E1 (by rw [enumF_len, ← al_len al]; exact walk_enum) (fun F' H' a b => sq_of ((a.trans b) _ _ hs)) fun i ψ x F' H2 H2' hi a b y => ?_⟩
  obtain ⟨T, y, z, e1, e2, e3, e4, e5⟩ := y
  obtain ⟨φ, hφ, rfl⟩ := enumF_of hi
  cases e4
  obtain ⟨φ', h1, h2⟩ := al_getF al e5
  rw [hφ] at h1
  cases h1
  exact pair_new b (Dq.int _) (φ.mono a h2) e1 e2 e3⟩
def zipF (K : PySem.W.Frag) (φs ψs : List FP) : List FP := List.zipWith (fun φ ψ => TupF K [φ, ψ]) φs ψs
theorem zipF_of {φs ψs : List FP} {i : Nat} {χ : FP} (h : (zipF K φs ψs)[i]? = some χ) : ∃ φ ψ, φs[i]? = some φ ∧ ψs[i]? = some ψ ∧ χ = TupF K [φ, ψ] := by
  unfold zipF at h
  rw [List.getElem?_zipWith] at h
  cases q : φs[i]? with
  | none => rw [q] at h; cases h
  | some φ =>
    cases q2 : ψs[i]? with
    | none => rw [q, q2] at h; cases h
    | some ψ =>
      rw [q, q2] at h
      exact ⟨φ, ψ, rfl, rfl, (Option.some.inj h).symm⟩
theorem it_zip {ta : TA} {φs ψs : List FP} (h : AG m Γ ta [.fx (LstF K φs), .fx (LstF K ψs)]) : IT m Γ (iZip K ta) (zipF K φs ψs) := ⟨fun F H σ E R k => h F H σ E _ fun vs F1 H1 x E1 p => by
  obtain ⟨v, w, rfl, ⟨a, ws, e, hs, al⟩, ⟨a2, ws2, e2, hs2, al2⟩⟩ := ags2 p
  subst e e2
  refine ⟨a, a2, ws, ws2, rfl, sq_of (E1.fh _ _ hs), sq_of (E1.fh _ _ hs2), k (Itz K a a2) (fun H => SqL K H a ws ∧ SqL K H a2 ws2) (YPair (fun i => ws[i]?) (fun i => ws2[i]?)) F1 H1 x E1 (walk_zip (by unfold zipF; rw [List.length_zipWith, al_len al, al_len al2])) (fun F' H' a b => ⟨sq_of ((a.trans b) _ _ hs), sq_of ((a.trans b) _ _ hs2)⟩) fun i χ x F' H2 H2' hi a b y => ?_⟩
  obtain ⟨T, y, z, e1, e2, e3, e4, e5⟩ := y
  obtain ⟨φ, ψ, hφ, hψ, rfl⟩ := zipF_of hi
  obtain ⟨φ', h1, h2⟩ := al_getF al e4
  rw [hφ] at h1
  cases h1
  obtain ⟨ψ', h3, h4⟩ := al_getF al2 e5
  rw [hψ] at h3
  cases h3
  exact pair_new b (φ.mono a h2) (ψ.mono a h4) e1 e2 e3⟩
/-! ### loops -/
theorem q_forB (it : IT m Γ wi items) (I : Nat → List En → Prop) (B : List En → Prop) (h0 : I 0 Γ) (hs : ∀ (i : Nat) φ Γ', items[i]? = some φ → I i Γ' → ∃ Γ2, TGo m Γ' g φ Γ2 ∧ SG m Γ2 tu ⟨I (i + 1), po.rt, B, I (i + 1)⟩)
    (hd : ∀ Γ', I items.length Γ' → SG m Γ' tz po) (hb : ∀ Γ', B Γ' → SG m Γ' tz po) : SG m Γ (tSeq (tFor wi g tu) tz) po := fun F H σ E D q => by
  refine it.run F H σ E _ fun J G Y F1 H1 x E1 W hG hY => ?_
  have q1 := q.mono x.f
  refine for_it W (D := { D with nx := tz D }) (fun i σ' H' => ∃ F' Γ', Ex F1 F' ∧ GE m F' H' σ' Γ' ∧ I i Γ') ⟨F1, Γ, Ex.refl F1, E1, h0⟩ (fun i σ' H' _ ⟨F', Γ', a, b, _⟩ => hG F' H' a b.fh) (fun i v σ' H2 H2' hi ⟨F', Γ', a, b, c⟩ y => ?_) (fun σ' H' ⟨F', Γ', a, b, c⟩ => hd Γ' c F' H' σ' b D (q1.mono a))
  have hφ := List.getElem?_eq_getElem hi
  obtain ⟨F'', x2', pv, ge⟩ := hY i _ v F' H2 H2' hφ a b.fh y
  have a2 := x2'.f
  obtain ⟨Γ2, ht, hsg⟩ := hs i _ Γ' hφ c
  refine ht F'' H2' σ' (ge σ' Γ' b) v pv _ fun σ2 F3 H3 x3 E3 => ?_
  refine hsg F3 H3 σ2 E3 _ ⟨fun σ4 F4 H4 Γ4 x4 E4 n => ⟨F4, Γ4, ((a.trans a2).trans x3).trans x4, E4, n⟩, fun σ4 F4 H4 Γ4 v x4 E4 n => q1.rt σ4 F4 H4 Γ4 v (((a.trans a2).trans x3).trans x4) E4 n, fun σ4 F4 H4 Γ4 x4 E4 n => hb Γ4 n F4 H4 σ4 E4 D (q1.mono (((a.trans a2).trans x3).trans x4)), fun σ4 F4 H4 Γ4 x4 E4 n => ⟨F4, Γ4, ((a.trans a2).trans x3).trans x4, E4, n⟩⟩
theorem q_forG (it : IT m Γ wi items) (I : Nat → List En → Prop) (h0 : I 0 Γ) (hs : ∀ (i : Nat) φ Γ', items[i]? = some φ → I i Γ' → ∃ Γ2, TGo m Γ' g φ Γ2 ∧ SG m Γ2 tu ⟨I (i + 1), po.rt, fun _ => False, I (i + 1)⟩)
    (hd : ∀ Γ', I items.length Γ' → SG m Γ' tz po) : SG m Γ (tSeq (tFor wi g tu) tz) po := q_forB it I (fun _ => False) h0 hs hd fun _ h => h.elim
/-- a for at the end of a block -/
theorem s_forG (it : IT m Γ wi items) (I : Nat → List En → Prop) (h0 : I 0 Γ) (hs : ∀ (i : Nat) φ Γ', items[i]? = some φ → I i Γ' → ∃ Γ2, TGo m Γ' g φ Γ2 ∧ SG m Γ2 tu ⟨I (i + 1), po.rt, fun _ => False, I (i + 1)⟩)
    (hd : ∀ Γ', I items.length Γ' → po.nx Γ') : SG m Γ (tFor wi g tu) po := fun F H σ E D q => q_forG (tz := tNext) (po := po) it I h0 hs (fun Γ' h => sg_next (hd Γ' h)) F H σ E D q
theorem q_whileG (I : Nat → List En → Prop) (B : List En → Prop) (k0 : Nat) (h0 : I k0 Γ) (hs : ∀ k Γ', I k Γ' → ∃ P : Bool → Prop, BG m Γ' t P ∧ (P true → SG m Γ' tu ⟨fun Γ2 => ∃ k', k' < k ∧ I k' Γ2, po.rt, B, fun Γ2 => ∃ k', k' < k ∧ I k' Γ2⟩) ∧ (P false → SG m Γ' tz po)) (hb : ∀ Γ', B Γ' → SG m Γ' tz po) :
    SG m Γ (tSeq (tWhile t tu) tz) po := fun F H σ E D q => by
  refine ⟨fun k σ' H' => ∃ F' Γ', Ex F F' ∧ GE m F' H' σ' Γ' ∧ I k Γ', ⟨k0, F, Γ, Ex.refl F, E, h0⟩, fun k σ' H' ⟨F', Γ', a, b, c⟩ => ?_⟩
  obtain ⟨P, hP, h1, h2⟩ := hs k Γ' c
  refine hP F' H' σ' b _ fun b' F2 H2 x2 E2 p => ?_
  cases b' with
  | true =>
    refine ⟨fun σ4 H4 => ∃ F4 Γ4, Ex F F4 ∧ GE m F4 H4 σ4 Γ4 ∧ ∃ k', k' < k ∧ I k' Γ4, fun σ4 H4 ⟨F4, Γ4, y1, y2, k', y3, y4⟩ => ⟨k', y3, F4, Γ4, y1, y2, y4⟩, ?_⟩
    refine h1 p F2 H2 σ' E2 _ ⟨fun σ4 F4 H4 Γ4 x4 E4 n => ⟨F4, Γ4, (a.trans x2.f).trans x4, E4, n⟩, fun σ4 F4 H4 Γ4 v x4 E4 n => q.rt σ4 F4 H4 Γ4 v ((a.trans x2.f).trans x4) E4 n, fun σ4 F4 H4 Γ4 x4 E4 n => hb Γ4 n F4 H4 σ4 E4 D (q.mono ((a.trans x2.f).trans x4)), fun σ4 F4 H4 Γ4 x4 E4 n => ⟨F4, Γ4, (a.trans x2.f).trans x4, E4, n⟩⟩
  | false => exact h2 p F2 H2 σ' E2 D (q.mono (a.trans x2.f))
/-! ### comprehensions -/
def wipeG (Γ : List En) : List Nat → List En
  | [] => Γ
  | v :: vs => (wipeG Γ vs).set v .un
theorem GE.wipe {F H : Hp} {σ : L2.St} (E : GE m F H σ Γ) : ∀ vs : List Nat, GE m F H (wipe σ vs) (wipeG Γ vs)
  | [] => E
  | v :: vs => by
    have h := GE.wipe E vs
    refine ⟨h.fh, h.base, h.fresh, h.frame, h.dr, by show ((L2.wipe σ vs).set v none).length = ((wipeG Γ vs).set v .un).length; rw [List.length_set, List.length_set]; exact h.len, fun j e q => ?_, fun a b p R S hab hR hS ha hb => ?_⟩
    · rcases getSet q with ⟨rfl, rfl, l⟩ | ⟨n, q⟩
      · exact ⟨none, List.getElem?_set_self (by rw [h.len]; exact l), trivial⟩
      · obtain ⟨w, hw, s⟩ := h.slot j e q
        exact ⟨w, by show ((L2.wipe σ vs).set v none)[j]? = _; rw [List.getElem?_set_ne n]; exact hw, s⟩
    · rcases getSet hR with ⟨_, e, _⟩ | ⟨n1, hR⟩
      · cases e
      · rcases getSet hS with ⟨_, e, _⟩ | ⟨n2, hS⟩
        · cases e
        · have ha : ((L2.wipe σ vs).set v none)[a]? = _ := ha
          have hb : ((L2.wipe σ vs).set v none)[b]? = _ := hb
          rw [List.getElem?_set_ne n1] at ha
          rw [List.getElem?_set_ne n2] at hb
          exact h.sep a b p R S hab hR hS ha hb
theorem wipe_out {σ : L2.St} {i : Nat} : ∀ {vs : List Nat}, i ∉ vs → (wipe σ vs)[i]? = σ[i]?
  | [], _ => rfl
  | v :: vs, h => by
    show ((L2.wipe σ vs).set v none)[i]? = _
    rw [List.getElem?_set_ne (fun e => h (by rw [e]; exact List.mem_cons_self ..))]
    exact wipe_out fun z => h (List.mem_cons_of_mem _ z)
theorem wipeG_out {i : Nat} : ∀ {vs : List Nat}, i ∉ vs → (wipeG Γ vs)[i]? = Γ[i]?
  | [], _ => rfl
  | v :: vs, h => by
    show ((wipeG Γ vs).set v .un)[i]? = _
    rw [List.getElem?_set_ne (fun e => h (by rw [e]; exact List.mem_cons_self ..))]
    exact wipeG_out fun z => h (List.mem_cons_of_mem _ z)
theorem wipe_in {σ : L2.St} {i : Nat} : ∀ {vs : List Nat}, i ∈ vs → (wipe σ vs)[i]? = if i < σ.length then some none else none
  | v :: vs, h => by
    have l := wipe_length σ vs
    show ((L2.wipe σ vs).set v none)[i]? = _
    by_cases e : v = i
    · subst e
      by_cases c : v < σ.length
      · rw [if_pos c, List.getElem?_set_self (by rw [l]; exact c)]
      · rw [if_neg c]
        exact List.getElem?_eq_none (by rw [List.length_set, l]; omega)
    · rw [List.getElem?_set_ne e]
      exact wipe_in (by
        rcases List.mem_cons.mp h with z | z
        · exact absurd z.symm e
        · exact z)
theorem wipe_eq {σ σ2 : L2.St} {vs : List Nat} (hl : σ2.length = σ.length) (h : ∀ i, i ∉ vs → σ2[i]? = σ[i]?) : wipe σ2 vs = wipe σ vs := by
  apply List.ext_getElem?
  intro i
  by_cases c : i ∈ vs
  · rw [wipe_in c, wipe_in c, hl]
  · rw [wipe_out c, wipe_out c]
    exact h i c
/-- a target that stores to vs alone -/
structure TV (m : Fm) (Γ : List En) (g : TG) (φ : FP) (Γ' : List En) (vs : List Nat) : Prop where
  run : ∀ (F H : Hp) (σ : L2.St), GE m F H σ Γ → ∀ v, φ.p F v → ∀ Q : L2.St → Hp → Prop, (∀ σ' , GE m F H σ' Γ' → (∀ i, i ∉ vs → σ'[i]? = σ[i]?) → σ'.length = σ.length → Q σ' H) → g v σ H Q
  out : ∀ i, i ∉ vs → Γ'[i]? = Γ[i]?
structure TVs (m : Fm) (Γ : List En) (g : TGs) (φs : List FP) (Γ' : List En) (vs : List Nat) : Prop where
  run : ∀ (F H : Hp) (σ : L2.St), GE m F H σ Γ → ∀ ws, Al F ws φs → ∀ Q : L2.St → Hp → Prop, (∀ σ' , GE m F H σ' Γ' → (∀ i, i ∉ vs → σ'[i]? = σ[i]?) → σ'.length = σ.length → Q σ' H) → g ws σ H Q
  out : ∀ i, i ∉ vs → Γ'[i]? = Γ[i]?
theorem tv_name {j : Nat} {vs : List Nat} (h : j ∈ vs) : TV m Γ (gName j) φ (Γ.set j (.fx φ)) vs :=
  ⟨fun F H σ E v p Q q => q _ (E.setF p) (fun i hi => List.getElem?_set_ne (fun e => hi (by rw [← e]; exact h))) List.length_set, fun i hi => List.getElem?_set_ne (fun e => hi (by rw [← e]; exact h))⟩
theorem tvs_nil {vs : List Nat} : TVs m Γ gNil [] Γ vs := ⟨fun F H σ E ws p Q q => by
  cases p
  exact ⟨rfl, q σ E (fun _ _ => rfl) rfl⟩, fun _ _ => rfl⟩
theorem tvs_cons {gs : TGs} {φs : List FP} {Γ1 Γ2 : List En} {vs : List Nat} (h : TV m Γ g φ Γ1 vs) (hs : TVs m Γ1 gs φs Γ2 vs) : TVs m Γ (gCons g gs) (φ :: φs) Γ2 vs := ⟨fun F H σ E ws p Q q => by
  cases p with
  | @cons v _ ws _ h1 h2 => exact ⟨v, ws, rfl, h.run F H σ E v h1 _ fun σ1 E1 o1 l1 => hs.run F H σ1 E1 ws h2 Q fun σ2 E2 o2 l2 => q σ2 E2 (fun i hi => (o2 i hi).trans (o1 i hi)) (l2.trans l1)⟩, fun i hi => (hs.out i hi).trans (h.out i hi)⟩
theorem tv_tup {gs : TGs} {φs : List FP} {n : Nat} {vs : List Nat} (hs : TVs m Γ gs φs Γ' vs) (hn : φs.length = n) : TV m Γ (gTup K n gs) (TupF K φs) Γ' vs :=
  ⟨fun F H σ E v ⟨p, ws, e, hp, al⟩ Q q => ⟨p, ws, e, st_of (E.fh _ _ hp), (al_len al).trans hn, hs.run F H σ E ws al Q q⟩, hs.out⟩
theorem tv_le {φ' : FP} {vs : List Nat} (h : TV m Γ g φ' Γ' vs) (l : φ.le φ') : TV m Γ g φ Γ' vs := ⟨fun F H σ E v p => h.run F H σ E v (l p), h.out⟩
/-- back to the slots ahead of the comprehension's turn -/
theorem GE.back {F H F4 H4 : Hp} {σ σ2 : L2.St} {Γ2 : List En} {vs : List Nat} (E : GE m F H σ Γ) (E2 : GE m F4 H4 σ2 Γ2) (x : Ex F F4) (h1 : ∀ i, i ∉ vs → σ2[i]? = σ[i]?) (h2 : ∀ i, i ∉ vs → Γ2[i]? = Γ[i]?) (nv : ∀ i ∈ vs, ∀ R, Γ[i]? ≠ some (.oo R)) : GE m F4 H4 σ Γ := by
  refine ⟨E2.fh, E2.base, E2.fresh, E2.frame, E2.dr, E.len, fun i e q => ?_, E.sep⟩
  by_cases c : i ∈ vs
  · obtain ⟨w, hw, s⟩ := E.slot i e q
    refine ⟨w, hw, ?_⟩
    cases e with
    | fx φ =>
      obtain ⟨v, e, p⟩ := s
      exact ⟨v, e, φ.mono x p⟩
    | oo R => exact absurd q (nv i c R)
    | dr => exact s
    | un => trivial
  · obtain ⟨w, hw, s⟩ := E2.slot i e (by rw [h2 i c]; exact q)
    exact ⟨w, by rw [← h1 i c]; exact hw, s⟩
/-- the new list of a comprehension while it grows -/
structure LcI (m : Fm) (F1 : Hp) (σ : L2.St) (Γ : List En) (D : Addr) (φs : List FP) (F H : Hp) : Prop where
  x : Ex F1 F
  e : GE m F H σ Γ
  nf : F D = none
  n0 : m.H0 D = none
  d : ∃ vs, H D = some (.lst vs) ∧ Al F vs φs
  al : ∀ (i : Nat) S, Γ[i]? = some (.oo S) → σ[i]? ≠ some (some (.ref D))
theorem GE.mutOut {F H : Hp} {σ : L2.St} (h : GE m F H σ Γ) {p : Addr} {o : HO} (nf : F p = none) (n0 : m.H0 p = none) (na : ∀ (i : Nat) S, Γ[i]? = some (.oo S) → σ[i]? ≠ some (some (.ref p))) : GE m F (upd H p o) σ Γ := by
  have nM := h.nM n0
  refine ⟨h.fh.mut nf, h.base, h.fresh, fun q u c e => ?_, fun a ha => ?_, h.len, fun j e q => ?_, h.sep⟩
  · rw [upd_ne (fun z => by rw [z, n0] at e; cases e)]
    exact h.frame q u c e
  · obtain ⟨⟨xs, h1, h2⟩, h3⟩ := h.dr a ha
    exact ⟨⟨xs, by rw [upd_ne (fun z => nM (by rw [← z]; exact ha))]; exact h1, h2⟩, h3⟩
  · obtain ⟨w, hw, s⟩ := h.slot j e q
    refine ⟨w, hw, ?_⟩
    cases e with
    | fx φ => exact s
    | dr => exact s
    | un => trivial
    | oo S =>
      obtain ⟨p2, o2, e2, nf2, n02, ho2, r2⟩ := s
      refine ⟨p2, o2, e2, nf2, n02, ?_, r2⟩
      rw [upd_ne (fun z => by
        subst e2
        rw [z] at hw
        exact na j S q hw)]
      exact ho2
theorem eo_lc {g : TG} {vs : List Nat} (it : IT m Γ wi items) (hz : items.length ≤ 100000) (nv : ∀ i ∈ vs, ∀ R, Γ[i]? ≠ some (.oo R)) (ψ : Nat → Option FP)
    (hs : ∀ (i : Nat) φ, items[i]? = some φ → ∃ Γ2, TV m (wipeG Γ vs) g φ Γ2 vs ∧ BG m Γ2 t (· = (ψ i).isSome) ∧ ∀ χ, ψ i = some χ → EG m Γ2 te χ) : EO m Γ (tLc wi g t te vs) (OwL ((List.range items.length).filterMap ψ)) := fun F H σ E Q q => by
  refine it.run F H σ E _ fun J G Y F1 H1 x E1 W hG hY D hD => ?_
  have acc0 : LcI m F1 σ Γ D [] F1 (upd H1 D (.lst [])) := ⟨Ex.refl F1, E1.mutOut (fresh_F E1 hD) (E1.fresh0 hD) (E1.alone hD), fresh_F E1 hD, E1.fresh0 hD, ⟨[], upd_same, .nil⟩, E1.alone hD⟩
  have stp : ∀ (i : Nat), (List.range (i + 1)).filterMap ψ = (List.range i).filterMap ψ ++ (ψ i).toList := fun i => by
    rw [List.range_succ, List.filterMap_append]
    congr 1
  have lens : ∀ (i : Nat), ((List.range i).filterMap ψ).length ≤ i := fun i => Nat.le_trans (List.length_filterMap_le _ _) (by rw [List.length_range]; exact Nat.le_refl _)
  have MD : m.M ≠ some D := E1.nM (E1.fresh0 hD)
  -- what was there stays, but for D
  refine lc_it W (vs := vs) (fun i H' => ∃ F', LcI m F1 σ Γ D ((List.range i).filterMap ψ) F' H' ∧ XF m F1 H1 F' H') ⟨F1, acc0, XF.refl.grow (Ex.new hD)⟩ (fun i H' _ ⟨F', a, _⟩ => hG F' H' a.x a.e.fh) (fun i v H2 H2' hi ⟨F', a, xm⟩ y => ?_) (fun H' ⟨F', a, xm⟩ => ?_)
  · have hφ := List.getElem?_eq_getElem hi
    obtain ⟨F'', x2, pv, ge⟩ := hY i _ v F' H2 H2' hφ a.x a.e.fh y
    obtain ⟨Γ2, ht, hB, hE⟩ := hs i _ hφ
    have E0 := ge σ Γ a.e
    obtain ⟨ws, hD2, alD⟩ := a.d
    refine ht.run F'' H2' _ (E0.wipe vs) v pv _ fun σ2 E2 o2 l2 => ?_
    have ow : ∀ i, i ∉ vs → σ2[i]? = σ[i]? := fun i hi => (o2 i hi).trans (wipe_out hi)
    have oG : ∀ i, i ∉ vs → Γ2[i]? = Γ[i]? := fun i hi => (ht.out i hi).trans (wipeG_out hi)
    refine ⟨wipe_eq (l2.trans (wipe_length σ vs)) ow, ?_⟩
    -- from a later place back to the slots ahead
    have later : ∀ {F3 H3 : Hp}, XF m F'' H2' F3 H3 → GE m F3 H3 σ2 Γ2 → LcI m F1 σ Γ D ((List.range i).filterMap ψ) F3 H3 ∧ XF m F1 H1 F3 H3 := fun {F3 H3} x3 E3 => by
      have x23 := x2.trans x3
      refine ⟨⟨a.x.trans x23.f, E0.back E3 x3.f ow oG nv, ?_, a.n0, ⟨ws, x23.k D _ MD hD2, alD.mono x23.f⟩, a.al⟩, xm.trans x23⟩
      cases w : F3 D with
      | none => rfl
      | some u =>
        have := x23.n D u w a.nf
        rw [hD2] at this
        cases this
    refine hB F'' H2' σ2 E2 _ fun b F3 H3 x3 E3 hb => ?_
    have hb : b = (ψ i).isSome := hb
    cases hψ : ψ i with
    | none =>
      rw [hψ] at hb
      subst hb
      have eqn := stp i
      rw [hψ, show (none : Option FP).toList = [] from rfl, List.append_nil] at eqn
      show ∃ F', LcI m F1 σ Γ D ((List.range (i + 1)).filterMap ψ) F' H3 ∧ XF m F1 H1 F' H3
      rw [eqn]
      obtain ⟨l1, l2⟩ := later x3 E3
      exact ⟨F3, l1, l2⟩
    | some χ =>
      rw [hψ] at hb
      subst hb
      have eqn := stp i
      rw [hψ, show (some χ : Option FP).toList = [χ] from rfl] at eqn
      refine hE χ hψ F3 H3 σ2 E3 _ fun v4 F4 H4 x4 E4 p4 => ?_
      obtain ⟨l1, l2⟩ := later (x3.trans x4) E4
      obtain ⟨us, h1, h2⟩ := l1.d
      refine ⟨us, h1, sz_lt (by rw [al_len h2]; have := lens i; omega), F4, ?_, ?_⟩
      · rw [eqn]
        exact ⟨l1.x, l1.e.mutOut l1.nf l1.n0 l1.al, l1.nf, l1.n0, ⟨_, upd_same, al_app h2 (.cons p4 .nil)⟩, l1.al⟩
      · refine ⟨l2.f, fun p o n h => ?_, l2.n, fun p o h => ?_⟩
        · rw [upd_ne (ne_of_none h hD)]
          exact l2.k p o n h
        · rw [upd_ne (ne_of_none h hD)]
          exact l2.t p o h
  · obtain ⟨us, h1, h2⟩ := a.d
    exact q D _ F' H' (x.trans xm) a.e a.nf (back_none x hD) h1 a.n0 ⟨us, rfl, h2⟩ a.al
/-- every turn gives -/
theorem eo_lcM {g : TG} {vs : List Nat} (it : IT m Γ wi items) (hz : items.length ≤ 100000) (nv : ∀ i ∈ vs, ∀ R, Γ[i]? ≠ some (.oo R)) (χ : Nat → FP)
    (hs : ∀ (i : Nat) φ, items[i]? = some φ → ∃ Γ2, TV m (wipeG Γ vs) g φ Γ2 vs ∧ EG m Γ2 te (χ i)) : EO m Γ (tLc wi g tYes te vs) (OwL ((List.range items.length).map χ)) := by
  have h := eo_lc (t := tYes) (te := te) it hz nv (fun i => some (χ i)) fun i φ hi => by
    obtain ⟨Γ2, h1, h2⟩ := hs i φ hi
    exact ⟨Γ2, h1, fun F H σ E Q q => q true F H XF.refl E rfl, fun ψ e => by cases e; exact h2⟩
  rw [show (List.range items.length).filterMap (fun i => some (χ i)) = (List.range items.length).map χ from by rw [← List.filterMap_eq_map]; rfl] at h
  exact h
end
end SB

set_option maxHeartbeats 4000000
namespace SB
open PySem PySem.Spec PyProof.Rows L2
open TL (tl)
open Evl
/-! ### the promise of a def in the logic, and its call -/
def spG (Φ : List En → FP → Prop) : Sp := fun vs H Q _ => ∃ (m : Fm) (as : List En) (ψ : FP), Φ as ψ ∧ m.H0 = H ∧ Ags m m.F0 vs as ∧ GE m m.F0 H [] [] ∧ ∀ v F' H' σ' Γ', GE m F' H' σ' Γ' → ψ.p F' v → Q v H'
def pads (n : Nat) (as : List En) : List En := as ++ List.replicate (n - as.length) .un
theorem ge_start {m : Fm} {F H : Hp} {N : List Str} {vs : List V} {as : List En} (E : GE m F H [] []) (h : Ags m F vs as) : GE m F H (L2.start N vs) (pads N.length as) := by
  have hl : vs.length = as.length := Paired.length h
  have getA : ∀ {vs : List V} {as : List En} {i : Nat} {e : En}, Ags m F vs as → as[i]? = some e → ∃ v, vs[i]? = some v ∧ ArgOk m F v e := by
    intro vs as i e h
    induction h generalizing i with
    | nil => intro q; simp at q
    | cons r t ih =>
      intro q
      cases i with
      | zero => simp at q; subst q; exact ⟨_, rfl, r⟩
      | succ i => simp at q; simpa using ih q
  have noO : ∀ {i : Nat} {R : OP}, (pads N.length as)[i]? ≠ some (.oo R) := fun {i R} q => by
    unfold pads at q
    by_cases c : i < as.length
    · rw [List.getElem?_append_left c] at q
      obtain ⟨v, _, a⟩ := getA h q
      exact a
    · rw [List.getElem?_append_right (by omega)] at q
      have := List.mem_of_getElem? q
      have := List.eq_of_mem_replicate this
      cases this
  refine ⟨E.fh, E.base, E.fresh, E.frame, E.dr, ?_, fun i e q => ?_, fun i j p R S _ hR => absurd hR noO⟩
  · unfold L2.start pads
    simp only [List.length_append, List.length_map, List.length_replicate]
    omega
  · unfold pads at q
    unfold L2.start
    by_cases c : i < as.length
    · rw [List.getElem?_append_left c] at q
      obtain ⟨v, hv, a⟩ := getA h q
      refine ⟨some v, by rw [List.getElem?_append_left (by rw [List.length_map]; omega), List.getElem?_map, hv]; rfl, ?_⟩
      cases e with
      | fx φ => exact ⟨v, rfl, a⟩
      | dr =>
        obtain ⟨x, rfl, hx⟩ := a
        exact ⟨x, rfl, hx⟩
      | oo R => exact a.elim
      | un => trivial
    · rw [List.getElem?_append_right (by omega)] at q
      have e1 := List.eq_of_mem_replicate (List.mem_of_getElem? q)
      have l1 := (List.getElem?_eq_some_iff.mp q).1
      rw [List.length_replicate] at l1
      subst e1
      refine ⟨none, ?_, trivial⟩
      rw [List.getElem?_append_right (by rw [List.length_map]; omega), List.length_map, List.getElem?_replicate, if_pos (by omega)]
/-- a body that keeps the promise -/
theorem spG_body {N : List Str} {Φ : List En → FP → Prop} {vs : List V} {H : Hp} {Q : VK} {E : XK} {ts : TS} (h : spG Φ vs H Q E) (hb : ∀ m as ψ, Φ as ψ → SG m (pads N.length as) ts ⟨fun _ => ∀ F, ψ.p F .non, ψ, fun _ => False, fun _ => False⟩) : ts { nx := fun _ H' => Q .non H', rt := Q } (L2.start N vs) H := by
  obtain ⟨m, as, ψ, hΦ, hH, ha, hE, k⟩ := h
  exact hb m as ψ hΦ m.F0 H _ (ge_start hE ha) _ ⟨fun σ' F' H' Γ' _ E' n => k _ F' H' σ' Γ' E' (n F'), fun σ' F' H' Γ' v _ E' p => k v F' H' σ' Γ' E' p, fun _ _ _ _ _ _ x => x.elim, fun _ _ _ _ _ _ x => x.elim⟩
theorem ge_ret {m : Fm} {F1 H1 F' H' : Hp} {σ σ' : L2.St} {Γ Γ' : List En} (E1 : GE m F1 H1 σ Γ) (E' : GE ⟨F1, H1, m.M⟩ F' H' σ' Γ') : GE m F' H' σ Γ ∧ XF m F1 H1 F' H' := by
  have t : ∀ p o, H1 p = some o → ∃ o', H' p = some o' := fun p o h => by
    by_cases c : m.M = some p
    · obtain ⟨⟨xs, hx, _⟩, _⟩ := E'.dr p c
      exact ⟨_, hx⟩
    · exact ⟨o, E'.frame p o c h⟩
  exact ⟨E1.step E'.base E'.fh (fun p o h n => E'.fresh p o h n) (fun p o c _ h => E'.frame p o c h) (fun a e => (E'.dr a e).1), E'.base, fun p o c h => E'.frame p o c h, fun p o h n => E'.fresh p o h n, t⟩
theorem ge_call {m : Fm} {F1 H1 : Hp} {σ : L2.St} {Γ : List En} (E1 : GE m F1 H1 σ Γ) : GE ⟨F1, H1, m.M⟩ F1 H1 [] [] :=
  ⟨E1.fh, Ex.refl F1, fun p o a b => absurd (a.symm.trans b) (by simp), fun p o _ h => h, fun a e => (by
    obtain ⟨h1, h2, _⟩ := E1.dr a e
    have h3 := h1
    obtain ⟨xs, h4, _⟩ := h3
    exact ⟨h1, h2, _, h4⟩), rfl, fun i e q => (by simp at q), fun i j p R S _ q => (by simp at q)⟩
section
variable {m : Fm} {K : PySem.W.Frag} {Γ Γ' : List En} {ta tb tc te : TE} {t u : TT} {φ φ1 φ2 ψ : FP} {r : R2} {R : OP} {tu tw tz : TS} {po : Po} {g : TG} {XE : XK}
theorem eg_call {Φ : List En → FP → Prop} {ta : TA} {es : List En} (h : AG m Γ ta es) (hΦ : Φ es ψ) : EG m Γ (tCallR (spG Φ) XE ta) ψ := fun F H σ E Q q => h F H σ E _ fun vs F1 H1 x1 E1 p1 =>
  ⟨⟨F1, H1, m.M⟩, es, ψ, hΦ, rfl, Paired.mapP p1 (fun v e r => by cases e <;> exact r), ge_call E1, fun v F' H' σ' Γ' E' p => by
    obtain ⟨E2, x2⟩ := ge_ret E1 E'
    exact q v F' H' (x1.trans x2) E2 p⟩
/-- a draw -/
theorem eg_below {i : Nat} {lim : Nat} (hi : Γ[i]? = some .dr) (hb : EG m Γ tb (Dd K (.int (lim : Int)))) (h0 : 0 < lim) (h1 : lim < 1000001) : EG m Γ (tCallR spBelow XE (tCons (tVar i) (tCons tb tNil))) (FP.ex (fun r : Nat => r < lim) fun r => Dd K (.int (r : Int))) := fun F H σ E Q q => by
  obtain ⟨w, hw, a, e, hM⟩ := E.slot i _ hi
  subst e
  refine ⟨_, hw, hb F H σ E _ fun v F1 H1 x1 E1 p1 => ?_⟩
  obtain ⟨d1, f1, o1⟩ := E1.dr a hM
  refine ⟨a, lim, by rw [dd_int p1], d1, h0, h1, fun r H2 hr e2 d2 => ?_⟩
  have M1 : ∀ b, m.M = some b → b = a := fun b hb => by rw [hM] at hb; exact (Option.some.inj hb).symm
  have k2 : ∀ p o, m.M ≠ some p → H1 p = some o → H2 p = some o := fun p o c h => e2 p o (fun z => c (by rw [z]; exact hM)) h
  refine q _ F1 H2 (x1.trans ⟨Ex.refl _, k2, fun p o a b => (by rw [a] at b; cases b), fun p o h => ?_⟩) (E1.step (Ex.refl _) (fun p o h => ?_) (fun p o a b => (by rw [a] at b; cases b)) (fun p o c _ h => k2 p o c h) (fun b hb => by rw [M1 b hb]; exact d2)) ⟨r, hr, Dq.int _⟩
  · by_cases c : p = a
    · obtain ⟨xs, h3, _⟩ := d2
      exact ⟨_, by rw [c]; exact h3⟩
    · exact ⟨o, e2 p o c h⟩
  · exact e2 p o (fun c => by rw [c, f1] at h; cases h) (E1.fh p o h)
/-- a value that stands in no heap, as data -/
def vD : V → PyData
  | .bl b => .bool b
  | .int i => .int i
  | .str z => .str z
  | _ => .none
def scV : V → Bool
  | .bl _ => true
  | .int _ => true
  | .str _ => true
  | .non => true
  | _ => false
theorem scD_v2 {v : V} (h : scV v = true) : scD (vD v) = some v := by cases v <;> first | rfl | cases h
theorem eg_i0 {g : Int → Int → V} {i j : Int} (ha : EG m Γ ta (Dd K (.int i))) (hb : EG m Γ tb (Dd K (.int j))) (h : scV (g i j) = true := by rfl) : EG m Γ (tOp (rI0 g) ta tb) (Dd K (vD (g i j))) := eg_I0 ha hb (scD_v2 h)
theorem eg_i {C : Int → Int → Prop} {g : Int → Int → V} {i j : Int} (ha : EG m Γ ta (Dd K (.int i))) (hb : EG m Γ tb (Dd K (.int j))) (c : C i j) (h : scV (g i j) = true := by rfl) : EG m Γ (tOp (rI C g) ta tb) (Dd K (vD (g i j))) := eg_I ha hb c (scD_v2 h)
theorem bg_lt {b : Bool} {g : Int → Int → V} {i j : Int} (ha : EG m Γ ta (Dd K (.int i))) (hb : EG m Γ tb (Dd K (.int j))) (e : g i j = .bl b) : BG m Γ (tTest (tOp (rI0 g) ta tb)) (· = b) := bg_test (eg_I0 ha hb (d := .bool b) (by rw [e]; rfl))
theorem bg_eqS {a b : Str} (ha : EG m Γ ta (Dd K (.str a))) (hb : EG m Γ tb (Dd K (.str b))) : BG m Γ (tTest (tOp rEq ta tb)) (· = decide (a = b)) := bg_is (bg_test (eg_eq ha hb rfl rfl rfl)) (by apply decide_eq_decide.mpr; exact ⟨fun h => V.str.inj h, fun h => by rw [h]⟩)
theorem eg_eqS {a b : Str} (ha : EG m Γ ta (Dd K (.str a))) (hb : EG m Γ tb (Dd K (.str b))) : EG m Γ (tOp rEq ta tb) (Dd K (.bool (decide (a = b)))) := eg_is (eg_eq ha hb rfl rfl rfl) (by congr 1; apply decide_eq_decide.mpr; exact ⟨fun h => V.str.inj h, fun h => by rw [h]⟩)
theorem eg_eqI {a b : Int} (ha : EG m Γ ta (Dd K (.int a))) (hb : EG m Γ tb (Dd K (.int b))) : EG m Γ (tOp rEq ta tb) (Dd K (.bool (decide (a = b)))) := eg_is (eg_eq ha hb rfl rfl rfl) (by congr 1; apply decide_eq_decide.mpr; exact ⟨fun h => V.int.inj h, fun h => by rw [h]⟩)
theorem bg_eqI {a b : Int} (ha : EG m Γ ta (Dd K (.int a))) (hb : EG m Γ tb (Dd K (.int b))) : BG m Γ (tTest (tOp rEq ta tb)) (· = decide (a = b)) := bg_test (eg_eqI ha hb)
theorem spG_len {Φ : List En → FP → Prop} {vs : List V} {H : Hp} {Q : VK} {E : XK} {n : Nat} (h : spG Φ vs H Q E) (hn : ∀ as ψ, Φ as ψ → as.length = n) : vs.length = n := by
  obtain ⟨m, as, ψ, hΦ, _, ha, _⟩ := h
  exact (Paired.length ha).trans (hn as ψ hΦ)
/-! ### what data are -/
theorem dp_some {F : Hp} {v : V} {d : PyData} (h : Dq K F v d) : decide (v = V.non) = (match d with | .none => true | _ => false) := by
  cases h <;> rfl
def isNon : PyData → Bool
  | .none => true
  | _ => false
theorem eg_isN {d : PyData} (ha : EG m Γ ta (Dd K d)) (hb : EG m Γ tb (Dd K .none)) : EG m Γ (tOp (fun x y H Q => y = V.non ∧ Q (.bl (decide (x = V.non))) H) ta tb) (Dd K (.bool (isNon d))) :=
  eg_op ha hb fun F H x y _ p1 p2 => by
    rw [dd_non p2]
    refine ⟨_, ?_, rv_isN⟩
    rw [dp_some p1]
    cases d <;> exact Dq.bl _
theorem eg_noN {d : PyData} (ha : EG m Γ ta (Dd K d)) (hb : EG m Γ tb (Dd K .none)) : EG m Γ (tOp (fun x y H Q => y = V.non ∧ Q (.bl (!decide (x = V.non))) H) ta tb) (Dd K (.bool (!isNon d))) :=
  eg_op ha hb fun F H x y _ p1 p2 => by
    rw [dd_non p2]
    refine ⟨_, ?_, rv_noN⟩
    rw [dp_some p1]
    cases d <;> exact Dq.bl _
/-- == and != at any depth -/
theorem eg_eqD {d e : PyData} (ha : EG m Γ ta (Dd K d)) (hb : EG m Γ tb (Dd K e)) (h1 : SeqAt.shaped d = true) (h2 : SeqAt.shaped e = true) : EG m Γ (tOp (rEqD K) ta tb) (Dd K (.bool (PyData.eqv d e))) :=
  eg_op ha hb fun F H x y e' p1 p2 => ⟨_, Dq.bl _, fun H1 e1 Q q => ⟨d, e, dq_dp (dq_ex (e'.trans e1) p1), dq_dp (dq_ex (e'.trans e1) p2), h1, h2, q H1 (Ex.refl H1)⟩⟩
theorem eg_neD {d e : PyData} (ha : EG m Γ ta (Dd K d)) (hb : EG m Γ tb (Dd K e)) (h1 : SeqAt.shaped d = true) (h2 : SeqAt.shaped e = true) : EG m Γ (tOp (rNeD K) ta tb) (Dd K (.bool (!PyData.eqv d e))) :=
  eg_op ha hb fun F H x y e' p1 p2 => ⟨_, Dq.bl _, fun H1 e1 Q q => ⟨d, e, dq_dp (dq_ex (e'.trans e1) p1), dq_dp (dq_ex (e'.trans e1) p2), h1, h2, q H1 (Ex.refl H1)⟩⟩
theorem eqv_self {d : PyData} (h : SeqAt.shaped d = true) : PyData.eqv d d = true := PySem.SeqAt.eqv_refl d (SeqAt.canLay_of_shaped h)
/-- the name of a datum's type -/
def tyD : PyData → String
  | .none => "NoneType"
  | .bool _ => "bool"
  | .int _ => "int"
  | .str _ => "str"
  | .list _ => "list"
  | .tuple _ => "tuple"
  | .dict _ => "dict"
theorem ty_of {F : Hp} {v : V} {d : PyData} (h : Dq K F v d) : TyX K F v (.type (tyD d)) := by
  cases h with
  | non => exact .base .non
  | bl b => exact .base (.bl b)
  | int i => exact .base (.int i)
  | str x => exact .base (.str x)
  | lst h _ => exact .base (.lst h)
  | tup h _ => exact .base (.tup h)
theorem tyX_ex {F F' : Hp} {v : V} {d : PyData} (e : Ex F F') (h : Dq K F v d) : TyX K F' v (.type (tyD d)) := ty_of (dq_ex e h)
theorem eg_isi {d : PyData} {cn : String} {b : Bool} (ha : EG m Γ te (Dd K d)) (hk : kitB (tyD d) cn = some b) : EG m Γ (tCB (rIsi K) (tCons te (tCons (tC (.ty cn)) tNil))) (Dd K (.bool b)) := fun F H σ E Q q => ha F H σ E _ fun v F1 H1 x1 E1 p1 =>
  ⟨v, .ty cn, .type (tyD d), .type cn, b, rfl, .ty cn, tyX_ex E1.fh p1, kit_ty hk, q _ F1 H1 x1 E1 (Dq.bl b)⟩
theorem bg_B {b : Bool} (h : EG m Γ te (Dd K (.bool b))) : BG m Γ (tB te) (· = b) := fun F H σ E Q q => h F H σ E _ fun v F1 H1 x1 E1 p => ⟨b, dd_bl p, q b F1 H1 x1 E1 rfl⟩
/-- the truth of a bool that is not told by its kind -/
theorem bg_tru {b : Bool} (h : EG m Γ te (Dd K (.bool b))) : BG m Γ (fun σ H Q => te σ H fun x H' => ∃ k, TruV K x H' k ∧ Q k H') (· = b) := fun F H σ E Q q => h F H σ E _ fun v F1 H1 x1 E1 p => by
  rw [dd_bl p]
  exact ⟨b, rfl, q b F1 H1 x1 E1 rfl⟩
theorem al_bls {F : Hp} : ∀ {ys : List Bool} {vs : List V}, Al F vs (ys.map fun z => Dd K (.bool z)) → vs = ys.map V.bl
  | [], _, .nil => rfl
  | y :: ys, _, .cons h t => by rw [dd_bl h, al_bls t]; rfl
theorem al_scs {F : Hp} : ∀ {ds : List PyData} {xs vs : List V}, ds.map scD = xs.map some → Al F vs (ds.map (Dd K)) → vs = xs
  | [], [], _, _, .nil => rfl
  | d :: ds, [], _, e, _ => by cases e
  | d :: ds, x :: xs, _, e, .cons h t => by
    simp only [List.map_cons, List.cons.injEq] at e
    rw [scD_v e.1 h, al_scs e.2 t]
/-- all(..), any(..) of bools -/
theorem eg_all {bs : List Bool} (h : EG m Γ te (LstF K (bs.map fun b => Dd K (.bool b)))) : EG m Γ (tCB (rAll K) (tCons te tNil)) (Dd K (.bool (bs.all id))) := fun F H σ E Q q => h F H σ E _ fun v F1 H1 x1 E1 ⟨p, vs, e, hs, al⟩ => by
  subst e
  have ev : vs = bs.map V.bl := by
    exact al_bls al
  exact ⟨p, bs, rfl, by rw [← ev]; exact sq_of (E1.fh _ _ hs), q _ F1 H1 x1 E1 (Dq.bl _)⟩
/-- a op b op c -/
theorem eg_chain {r' : R2} {a b : Bool} {φ3 : FP} (ha : EG m Γ ta φ1) (hb : EG m Γ tb φ2) (hc : a = true → EG m Γ tc φ3) (h1 : ∀ F H x y, Ex F H → φ1.p F x → φ2.p F y → RV r x y H (.bl a)) (h2 : a = true → ∀ F H y z, Ex F H → φ2.p F y → φ3.p F z → RV r' y z H (.bl b)) :
    EG m Γ (tChain r r' ta tb tc) (Dd K (.bool (a && b))) := fun F H σ E Q q => ha F H σ E _ fun x F1 H1 x1 E1 p1 => hb F1 H1 σ E1 _ fun y F2 H2 x2 E2 p2 => by
  refine h1 F2 H2 x y E2.fh (φ1.mono x2.f p1) p2 H2 (Ex.refl _) _ fun H3 e3 => ⟨a, rfl, ?_⟩
  have E3 := E2.grow e3
  cases a with
  | true =>
    show tc σ H3 _
    refine hc rfl F2 H3 σ E3 _ fun z F4 H4 x4 E4 p4 => ?_
    refine h2 rfl F4 H4 y z E4.fh (φ2.mono x4.f p2) p4 H4 (Ex.refl _) _ fun H5 e5 => ?_
    exact q _ F4 H5 ((((x1.trans x2).grow e3).trans x4).grow e5) (E4.grow e5) (Dq.bl _)
  | false => exact q _ F2 H3 ((x1.trans x2).grow e3) E3 (Dq.bl false)
/-! ### texts -/
theorem eg_addS {a b : Str} (ha : EG m Γ ta (Dd K (.str a))) (hb : EG m Γ tb (Dd K (.str b))) (hl : a.length + b.length ≤ sizeLine) : EG m Γ (tOp (fun x y H Q => ∃ i j, x = .str i ∧ y = .str j ∧ i.length + j.length ≤ sizeLine ∧ Q (.str (i ++ j)) H) ta tb) (Dd K (.str (a ++ b))) :=
  eg_op ha hb fun F H x y e' p1 p2 => by
    rw [dd_str p1, dd_str p2]
    exact ⟨_, Dq.str _, fun H1 e1 Q q => ⟨a, b, rfl, rfl, hl, q H1 (Ex.refl H1)⟩⟩
theorem al_strs {F : Hp} : ∀ {ys : List Str} {vs : List V}, Al F vs (ys.map fun z => Dd K (.str z)) → vs = ys.map V.str
  | [], _, .nil => rfl
  | y :: ys, _, .cons h t => by rw [dd_str h, al_strs t]; rfl
theorem al_ints {F : Hp} : ∀ {ys : List Int} {vs : List V}, Al F vs (ys.map fun z => Dd K (.int z)) → vs = ys.map V.int
  | [], _, .nil => rfl
  | y :: ys, _, .cons h t => by rw [dd_int h, al_ints t]; rfl
theorem eg_join {a : Str} {ys : List Str} (ha : EG m Γ ta (Dd K (.str a))) (hb : EG m Γ tb (LstF K (ys.map fun z => Dd K (.str z)))) (hl : (ys.map (·.length)).sum + ys.length * a.length ≤ 16777216) :
    EG m Γ (tM1 (fun x xs H Q => ∃ a p, ∃ ys : List Str, x = .str a ∧ xs = [.ref p] ∧ (SqL K H p (ys.map V.str) ∨ SqT K H p (ys.map V.str)) ∧ (ys.map (·.length)).sum + ys.length * a.length ≤ 16777216 ∧ Q (.str (Txt.join a ys)) H) ta tb) (Dd K (.str (Txt.join a ys))) := fun F H σ E Q q =>
  ha F H σ E _ fun x F1 H1 x1 E1 p1 => by
    rw [dd_str p1]
    refine ⟨⟨a, rfl⟩, hb F1 H1 σ E1 _ fun y F2 H2 x2 E2 ⟨p, vs, e, hs, al⟩ => ?_⟩
    subst e
    rw [al_strs al] at hs
    exact ⟨a, p, ys, rfl, rfl, .inl (sq_of (E2.fh _ _ hs)), hl, q _ F2 H2 (x1.trans x2) E2 (Dq.str _)⟩
theorem eg_strI {i : Int} (h : EG m Γ te (Dd K (.int i))) (hl : i.natAbs.log2 < 1920) : EG m Γ (tCB (fun xs H Q => ∃ i, xs = [V.int i] ∧ i.natAbs.log2 < 1920 ∧ Q (.str (toString i)) H) (tCons te tNil)) (Dd K (.str (toString i))) := fun F H σ E Q q =>
  h F H σ E _ fun x F1 H1 x1 E1 p1 => ⟨i, by rw [dd_int p1], hl, q _ F1 H1 x1 E1 (Dq.str _)⟩
theorem eg_tupOf {φs : List FP} (h : EG m Γ te (LstF K φs)) : EG m Γ (tCB (fun xs H Q => ∃ p ys, xs = [V.ref p] ∧ ((SqL K H p ys ∧ ∀ l, H l = none → Q (V.ref l) (upd H l (.tup ys))) ∨ (SqT K H p ys ∧ Q (V.ref p) H))) (tCons te tNil)) (TupF K φs) := fun F H σ E Q q =>
  h F H σ E _ fun v F1 H1 x1 E1 ⟨p, vs, e, hs, al⟩ => by
    subst e
    refine ⟨p, vs, rfl, .inl ⟨sq_of (E1.fh _ _ hs), fun l hl => ?_⟩⟩
    obtain ⟨E2, x2⟩ := E1.new (o := .tup vs) (Ex.new hl) hl upd_same
    exact q _ _ _ (x1.trans (XF.new hl (fresh_F E1 hl) (Ex.new hl))) E2 ⟨l, vs, rfl, upd_same, al.mono x2⟩
theorem eg_lenS {a : Str} (h : EG m Γ te (Dd K (.str a))) (hl : a.length ≤ sizeLine) : EG m Γ (tCB (fun xs H Q => ∃ z, xs = [V.str z] ∧ z.length ≤ sizeLine ∧ Q (V.int z.length) H) (tCons te tNil)) (Dd K (.int (a.length : Int))) := fun F H σ E Q q =>
  h F H σ E _ fun x F1 H1 x1 E1 p1 => ⟨a, by rw [dd_str p1], hl, q _ F1 H1 x1 E1 (Dq.int _)⟩
/-- x in [..], of what stands in no heap -/
theorem eg_inF {neg : Bool} {d : PyData} {x : V} {ds : List PyData} {xs : List V} (ha : EG m Γ ta (Dd K d)) (hb : EG m Γ tb (Dd K (.list ds))) (e1 : scD d = some x) (e2 : ds.map scD = xs.map some) (hx : flatV x = true) (hf : xs.all flatV = true) : EG m Γ (tOp (rIn K neg) ta tb) (Dd K (.bool (if neg then !inV x xs else inV x xs))) :=
  eg_op (eg_le ha (FP.le.refl _)) (eg_le hb dp_lst) fun F H y z e' p1 ⟨p, vs, e, hs, al⟩ => by
    subst e
    have ev : vs = xs := al_scs e2 al
    subst ev
    rw [scD_v e1 p1]
    exact ⟨_, Dq.bl _, rv_inL (sq_of (e' _ _ hs)) hx hf⟩
theorem eg_inT {neg : Bool} {d : PyData} {x : V} {ds : List PyData} {xs : List V} (ha : EG m Γ ta (Dd K d)) (hb : EG m Γ tb (Dd K (.tuple ds))) (e1 : scD d = some x) (e2 : ds.map scD = xs.map some) (hx : flatV x = true) (hf : xs.all flatV = true) : EG m Γ (tOp (rIn K neg) ta tb) (Dd K (.bool (if neg then !inV x xs else inV x xs))) :=
  eg_op (eg_le ha (FP.le.refl _)) (eg_le hb dp_tup) fun F H y z e' p1 ⟨p, vs, e, hs, al⟩ => by
    subst e
    have ev : vs = xs := al_scs e2 al
    subst ev
    rw [scD_v e1 p1]
    exact ⟨_, Dq.bl _, rv_inT (st_of (e' _ _ hs)) hx hf⟩
/-- xs + ys -/
theorem eo_cat {φs ψs : List FP} (ha : EG m Γ ta (LstF K φs)) (hb : EG m Γ tb (LstF K ψs)) (hl : φs.length + ψs.length ≤ 100000) : EO m Γ (tOp rCat ta tb) (OwL (φs ++ ψs)) := fun F H σ E Q q =>
  ha F H σ E _ fun x F1 H1 x1 E1 ⟨p, vs, e, hs, al⟩ => hb F1 H1 σ E1 _ fun y F2 H2 x2 E2 ⟨p2, ws, e2, hs2, al2⟩ => by
    subst e e2
    refine ⟨p, p2, vs, ws, rfl, rfl, E2.fh _ _ (x2.f _ _ hs), E2.fh _ _ hs2, ?_, fun b hb => eo_new (R := OwL (φs ++ ψs)) (o := .lst (vs ++ ws)) E2 hb (Ex.new hb) upd_same ⟨_, rfl, al_app (al.mono x2.f) al2⟩ fun p o F3 H3 x3 E3 nf hp' => q p o F3 H3 ((x1.trans x2).trans x3) E3 nf (back_none (x1.trans x2) hp')⟩
    rw [al_len al, al_len al2]
    exact sz_of hl
theorem eg_catT {φs ψs : List FP} (ha : EG m Γ ta (TupF K φs)) (hb : EG m Γ tb (TupF K ψs)) (hl : φs.length + ψs.length ≤ 100000) (r : R2) (hr : ∀ x y H Q, (∃ a b xs ys, x = V.ref a ∧ y = V.ref b ∧ SqT K H a xs ∧ SqT K H b ys ∧ xs.length + ys.length ≤ sizeLine ∧ ∀ p, H p = none → Q (V.ref p) (upd H p (.tup (xs ++ ys)))) → r x y H Q) : EG m Γ (tOp r ta tb) (TupF K (φs ++ ψs)) := fun F H σ E Q q =>
  ha F H σ E _ fun x F1 H1 x1 E1 ⟨p, vs, e, hs, al⟩ => hb F1 H1 σ E1 _ fun y F2 H2 x2 E2 ⟨p2, ws, e2, hs2, al2⟩ => by
    subst e e2
    refine hr _ _ _ _ ⟨p, p2, vs, ws, rfl, rfl, st_of ((x2.f.trans E2.fh) _ _ hs), st_of (E2.fh _ _ hs2), ?_, fun b hb => ?_⟩
    · rw [al_len al, al_len al2]
      exact sz_of hl
    · obtain ⟨E3, x3⟩ := E2.new (o := .tup (vs ++ ws)) (Ex.new hb) hb upd_same
      exact q _ _ _ ((x1.trans x2).trans (XF.new hb (fresh_F E2 hb) (Ex.new hb))) E3 ⟨b, _, rfl, upd_same, (al_app (al.mono x2.f) al2).mono x3⟩
end
end SB

set_option maxHeartbeats 4000000
namespace SB
open PySem PySem.Spec PyProof.Rows L2
open TL (tl)
open Evl
/-! ### dicts whose keys are nested tuples -/
mutual
def nkD : PyData → NestedKey
  | .int i => .num i
  | .bool b => .num (if b = true then 1 else 0)
  | .str x => .text x
  | .tuple ds => .tup (nkDs ds)
  | _ => .none
def nkDs : List PyData → List NestedKey
  | [] => []
  | d :: ds => nkD d :: nkDs ds
end
mutual
def kOk : PyData → Bool
  | .list _ => false
  | .dict _ => false
  | .tuple ds => kOks ds
  | _ => true
def kOks : List PyData → Bool
  | [] => true
  | d :: ds => kOk d && kOks ds
end
/-- what is fit to be a key: a tuple, not nested too deeply -/
def KeyD (d : PyData) : Prop := kOk d = true ∧ (nkD d).depth ≤ 8
section
variable {X : Cx} {pins : List (Addr × Obj)} {σ : L2.St} {H : Hp} {s : Shared}
mutual
theorem dq_nk (I : Inv X pins σ H s) : ∀ {v : V} {d : PyData} {u : Value}, Dq X.K H v d → kOk d = true → RelV v u → NestedIs s.heap (nkD d) u
  | _, _, u, .non, _, r => by
    cases r
    exact .none
  | _, _, u, .bl b, _, r => by
    cases r
    exact .bool rfl
  | _, _, u, .int i, _, r => by
    obtain ⟨t, rfl⟩ := r
    exact .int i t
  | _, _, u, .str x, _, r => by
    obtain ⟨t, rfl⟩ := r
    exact .text x t
  | _, _, u, .lst _ _, k, _ => by cases k
  | _, _, u, .tup (ds := ds) h r, k, q => by
    cases q
    obtain ⟨its, rv, ⟨o, ho, hc, n, hd⟩, _⟩ := I.tuple (st_of h)
    exact .tup ho hc hd (by simpa using dqs_nk I r k rv)
theorem dqs_nk (I : Inv X pins σ H s) : ∀ {vs : List V} {ds : List PyData} {us : List Value}, DqAll X.K H vs ds → kOks ds = true → Vals vs us → NestedAll s.heap (nkDs ds) us
  | _, _, _, .nil, _, .nil => .nil
  | _, _, _, .cons h t, k, .cons r rs => by
    have k' := Bool.and_eq_true_iff.mp k
    exact .cons (dq_nk I h k'.1 r) (dqs_nk I t k'.2 rs)
end
end
abbrev NE := NestedKey × Addr × V
/-- at p stands the dict of the entries ks, keyed by the tuples at their addresses -/
def DNok (P : Program) (w : World) (p : Addr) (ks : List NE) (h : Heap) : Prop := ks.length ≤ sizeLine ∧ (p == sysModules) = false ∧ ∃ xs : List (NestedKey × Addr × Value), Paired (fun (a : NE) (b : NestedKey × Addr × Value) => a.1 = b.1 ∧ a.2.1 = b.2.1 ∧ RelV a.2.2 b.2.2) ks xs ∧
  ∃ o es ep, h.get? p = some o ∧ o.ExactDict ∧ o.data = .dict es ep ∧ es.toList = xs.map (entryOfKey (nestedKind P w)) ∧ (xs.map (·.1)).Nodup
def DN (P : Program) (w : World) (p : Addr) (ks : List NE) : HO := .ext (DNok P w p ks)
theorem dn_at {P : Program} {w : World} {p : Addr} {ks : List NE} {h h' : Heap} (x : DNok P w p ks h) (k : ∀ o, h.get? p = some o → h'.get? p = some o) : DNok P w p ks h' := by
  obtain ⟨a, b, xs, c, o, es, ep, d, r⟩ := x
  exact ⟨a, b, xs, c, o, es, ep, k o d, r⟩
theorem dn_new {P : Program} {w : World} {H : Hp} {h : Heap} {p : Addr} {ks : List NE} (x : DNok P w p ks h) : ObjOk P w H h p (DN P w p ks) := by
  have y := x
  obtain ⟨a, b, xs, c, o, es, ep, d, r⟩ := y
  exact ⟨x, ⟨o, d⟩, fun h1 h2 x k => dn_at x k⟩
/-- all keys stand as the data that they are -/
def KsOk (K : PySem.W.Frag) (H : Hp) (ks : List NE) : Prop := ∀ e ∈ ks, ∃ d, KeyD d ∧ e.1 = nkD d ∧ Dq K H (.ref e.2.1) d
def lookN (ks : List NE) (k : NestedKey) : Option V := (ks.find? fun e => decide (e.1 = k)).map (·.2.2)
def putN (ks : List NE) (k : NestedKey) (a : Addr) (v : V) : List NE := if (lookN ks k).isSome then ks.map (fun e => if e.1 = k then (e.1, e.2.1, v) else e) else ks ++ [(k, a, v)]
section
variable {X : Cx} {pins : List (Addr × Obj)} {σ : L2.St} {H : Hp} {s : Shared} {p b : Addr} {ks : List NE} {d : PyData} {A : Around} {E : Value → Shared → Prop}
theorem dn_of (I : Inv X pins σ H s) (h : H p = some (DN X.prog X.w p ks)) : DNok X.prog X.w p ks s.heap := (I.hok p _ h).1
/-- as the library tells it -/
theorem dn_keyed (I : Inv X pins σ H s) (h : H p = some (DN X.prog X.w p ks)) (hk : KsOk X.K H ks) : ∃ xs : List (NestedKey × Addr × Value), Paired (fun (a : NE) (b : NestedKey × Addr × Value) => a.1 = b.1 ∧ a.2.1 = b.2.1 ∧ RelV a.2.2 b.2.2) ks xs ∧ s.heap.DictOfH (nestedKind X.prog X.w) p xs ∧ (p == sysModules) = false ∧ xs.length ≤ sizeLine := by
  obtain ⟨z, hs, xs, pr, o, es, ep, ho, hx, hd, he, hn⟩ := dn_of I h
  refine ⟨xs, pr, ⟨o, es, ep, ho, hx, hd, he, fun x hx => ?_, hn⟩, hs, by rw [← Paired.length pr]; exact z⟩
  have : ∀ {ks : List NE} {xs : List (NestedKey × Addr × Value)}, Paired (fun (a : NE) (b : NestedKey × Addr × Value) => a.1 = b.1 ∧ a.2.1 = b.2.1 ∧ RelV a.2.2 b.2.2) ks xs → ∀ x ∈ xs, ∃ e ∈ ks, e.1 = x.1 ∧ e.2.1 = x.2.1 := by
    intro ks xs pr
    induction pr with
    | nil => intro x hx; cases hx
    | cons r t ih =>
      intro x hx
      rcases List.mem_cons.mp hx with hx | hx
      · exact ⟨_, List.mem_cons_self .., by rw [hx]; exact r.1, by rw [hx]; exact r.2.1⟩
      · obtain ⟨e, h1, h2⟩ := ih x hx
        exact ⟨e, List.mem_cons_of_mem _ h1, h2⟩
  obtain ⟨e, h1, h2, h3⟩ := this pr x hx
  obtain ⟨d, kd, h4, h5⟩ := hk e h1
  rw [h3] at h5
  rw [← h2, h4]
  exact ⟨dq_nk I h5 kd.1 rfl, kd.2⟩
theorem look_pair : ∀ {ks : List NE} {xs : List (NestedKey × Addr × Value)} (k : NestedKey), Paired (fun (a : NE) (b : NestedKey × Addr × Value) => a.1 = b.1 ∧ a.2.1 = b.2.1 ∧ RelV a.2.2 b.2.2) ks xs → RelO (lookN ks k) ((atKey xs k).map (·.2)) := by
  intro ks xs k pr
  induction pr with
  | nil => exact trivial
  | @cons a c as cs r t ih =>
    by_cases h : a.1 = k
    · have e1 : lookN (a :: as) k = some a.2.2 := by simp [lookN, List.find?, h]
      have e2 : atKey (c :: cs) k = some c.2 := by simp [atKey, List.find?, r.1 ▸ h]
      rw [e1, e2]
      exact r.2.2
    · have e1 : lookN (a :: as) k = lookN as k := by simp [lookN, List.find?, h]
      have h2 : ¬ c.1 = k := r.1 ▸ h
      have e2 : atKey (c :: cs) k = atKey cs k := by simp [atKey, List.find?, h2]
      rw [e1, e2]
      exact ih
/-- k in d -/
theorem n_contains (hu : A.units + 64 < cLine) (I : Inv X pins σ H s) (h : H p = some (DN X.prog X.w p ks)) (hk : KsOk X.K H ks) (kd : KeyD d) (hb : Dq X.K H (.ref b) d) {Q : Value → Shared → Prop} (q : ∀ s', Inv X pins σ H s' → Q (.bool (lookN ks (nkD d)).isSome) s') :
    wpAny (model X.prog X.w) A (compareOp .In (.ref b) (.ref p)) Q E s := by
  obtain ⟨xs, pr, dd, hs, _⟩ := dn_keyed I h hk
  refine wpAny_in_heap (knd := nestedKind X.prog X.w) (k := nkD d) (by show A.units + 1 + 8 < cLine; omega) ⟨dq_nk I hb kd.1 rfl, kd.2⟩ hs dd ?_
  have e := (look_pair (nkD d) pr).isSome_eq
  rw [Option.isSome_map] at e
  rw [← e]
  exact q _ (I.tok _)
theorem n_notin (hu : A.units + 64 < cLine) (I : Inv X pins σ H s) (h : H p = some (DN X.prog X.w p ks)) (hk : KsOk X.K H ks) (kd : KeyD d) (hb : Dq X.K H (.ref b) d) {Q : Value → Shared → Prop} (q : ∀ s', Inv X pins σ H s' → Q (.bool (!(lookN ks (nkD d)).isSome)) s') :
    wpAny (model X.prog X.w) A (compareOp .NotIn (.ref b) (.ref p)) Q E s := by
  obtain ⟨xs, pr, dd, hs, _⟩ := dn_keyed I h hk
  show wpAny _ _ (do return .bool (!(← contains (.ref p) (.ref b)))) Q E s
  refine wpAny_bind (wpAny_contains_heap (knd := nestedKind X.prog X.w) (k := nkD d) (by show A.units + 1 + 8 < cLine; omega) ⟨dq_nk I hb kd.1 rfl, kd.2⟩ hs dd (wpAny_pure ?_))
  have e := (look_pair (nkD d) pr).isSome_eq
  rw [Option.isSome_map] at e
  rw [← e]
  exact q _ (I.tok _)
theorem n_get {v : V} (hu : A.units + 64 < cLine) (I : Inv X pins σ H s) (h : H p = some (DN X.prog X.w p ks)) (hk : KsOk X.K H ks) (kd : KeyD d) (hb : Dq X.K H (.ref b) d) (hv : lookN ks (nkD d) = some v) {Q : Value → Shared → Prop} (q : ∀ u s', Inv X pins σ H s' → RelV v u → Q u s') :
    wpAny (model X.prog X.w) A (getItem (.ref p) (.ref b)) Q E s := by
  obtain ⟨xs, pr, dd, hs, _⟩ := dn_keyed I h hk
  have e := look_pair (nkD d) pr
  rw [hv] at e
  cases q0 : atKey xs (nkD d) with
  | none =>
    rw [q0] at e
    exact (show False from e).elim
  | some y =>
    rw [q0] at e
    exact wpAny_getItem_heap (knd := nestedKind X.prog X.w) (k := nkD d) (by show A.units + 1 + 8 < cLine; omega) ⟨dq_nk I hb kd.1 rfl, kd.2⟩ dd q0 (q _ _ (I.tok _) e)
theorem putN_pair {k : NestedKey} {a : Addr} {v : V} {u : Value} (r : RelV v u) {ks : List NE} {xs : List (NestedKey × Addr × Value)} (pr : Paired (fun (a : NE) (b : NestedKey × Addr × Value) => a.1 = b.1 ∧ a.2.1 = b.2.1 ∧ RelV a.2.2 b.2.2) ks xs) : Paired (fun (a : NE) (b : NestedKey × Addr × Value) => a.1 = b.1 ∧ a.2.1 = b.2.1 ∧ RelV a.2.2 b.2.2) (putN ks k a v) (storedH xs k a u) := by
  have e := (look_pair k pr).isSome_eq
  rw [Option.isSome_map] at e
  unfold putN storedH
  rw [e]
  by_cases c : (atKey xs k).isSome = true
  · rw [if_pos c, if_pos c]
    clear e c
    induction pr with
    | nil => exact .nil
    | @cons x y xs ys q t ih =>
      refine .cons ?_ ih
      unfold putAt
      dsimp only
      by_cases h : x.1 = k
      · rw [if_pos h, if_pos (q.1 ▸ h)]
        exact ⟨q.1, q.2.1, r⟩
      · rw [if_neg h, if_neg (q.1 ▸ h)]
        exact q
  · rw [if_neg c, if_neg c]
    clear e c
    induction pr with
    | nil => exact .cons ⟨rfl, rfl, r⟩ .nil
    | cons q t ih => exact .cons q ih
theorem putN_len (ks : List NE) (k : NestedKey) (a : Addr) (v : V) : (putN ks k a v).length ≤ ks.length + 1 := by
  unfold putN
  split
  · rw [List.length_map]
    omega
  · simp
theorem n_set {v : V} {r : Value} (hu : A.units + 64 < cLine) (I : Inv X pins σ H s) (h : H p = some (DN X.prog X.w p ks)) (hk : KsOk X.K H ks) (kd : KeyD d) (hb : Dq X.K H (.ref b) d) (rv : RelV v r) (hl : ks.length < sizeLine) {Q : Unit → Shared → Prop} (q : ∀ s', Inv X pins σ (upd H p (DN X.prog X.w p (putN ks (nkD d) b v))) s' → Q () s') :
    wpAny (model X.prog X.w) A (setItem (.ref p) (.ref b) r) Q E s := by
  obtain ⟨xs, pr, dd, hs, hz⟩ := dn_keyed I h hk
  refine wpAny_setItem_heap (hsz := hz) (knd := nestedKind X.prog X.w) (k := nkD d) (by show A.units + 1 + 8 < cLine; omega) ⟨dq_nk I hb kd.1 rfl, kd.2⟩ dd fun h' dd' sb => q _ ?_
  obtain ⟨o, es, ep, h1, h2, h3, h4, _, h5⟩ := dd'
  refine d_write I (by rw [h]; exact True.intro) sb ⟨o, h1⟩ (dn_new ⟨?_, hs, _, putN_pair rv pr, o, es, ep, h1, h2, h3, h4, h5⟩)
  have := putN_len ks (nkD d) b v
  omega
theorem n_typeIs (I : Inv X pins σ H s) (h : H p = some (DN X.prog X.w p ks)) : s.TypeIs (.ref p) "dict" := by
  obtain ⟨_, _, xs, _, o, es, ep, ho, hx, _⟩ := dn_of I h
  exact ⟨o, ho, hx.1⟩
end
/-- {} -/
def tNNew (P : Program) (w : World) : TE := fun _ H Q => ∀ p, H p = none → Q (.ref p) (upd H p (DN P w p []))
def tNGet (P : Program) (w : World) (K : PySem.W.Frag) (td ty : TE) : TE := fun σ H Q => td σ H fun x H1 => ty σ H1 fun y H2 => ∃ p b ks d v, x = .ref p ∧ y = .ref b ∧ H2 p = some (DN P w p ks) ∧ KsOk K H2 ks ∧ KeyD d ∧ Dq K H2 (.ref b) d ∧ lookN ks (nkD d) = some v ∧ Q v H2
def tNIn (P : Program) (w : World) (K : PySem.W.Frag) (neg : Bool) (ty td : TE) : TE := fun σ H Q => ty σ H fun y H1 => td σ H1 fun x H2 => ∃ p b ks d, x = .ref p ∧ y = .ref b ∧ H2 p = some (DN P w p ks) ∧ KsOk K H2 ks ∧ KeyD d ∧ Dq K H2 (.ref b) d ∧ Q (.bl (if neg then !(lookN ks (nkD d)).isSome else (lookN ks (nkD d)).isSome)) H2
/-- the store of v at the key -/
def rSetN (P : Program) (w : World) (K : PySem.W.Frag) : TSet := fun x y v H Q => ∃ p b ks d, x = .ref p ∧ y = .ref b ∧ H p = some (DN P w p ks) ∧ KsOk K H ks ∧ KeyD d ∧ Dq K H (.ref b) d ∧ ks.length < sizeLine ∧ Q (upd H p (DN P w p (putN ks (nkD d) b v)))
section
variable {X : Cx} {o i e value : Expr} {pos pos' tpos : Pos} {td ty tv : TE}
theorem pe_nnew : PE X (.Dict [] [] pos) (tNNew X.prog X.w) := ⟨fun pins s σ H Q I h => by
  have hb := I.big
  exact wpAny_Dict_empty ⟨.ref s.heap.objs.size, _, I.laid (a := s.heap.objs.size) (o := DN X.prog X.w s.heap.objs.size []) (t' := s.toks) (fun _ _ q => Heap.get?_push_of_some _ q) (Nat.le_refl _) (dn_new ⟨Nat.zero_le _, beq_eq_false_iff_ne.mpr (Ne.symm (Nat.ne_of_lt hb)), [], .nil, _, #[], 0, Heap.get?_push_size _ rfl, ⟨rfl, rfl, rfl⟩, rfl, rfl, List.nodup_nil⟩), rfl, h _ (I.hok.fresh (Nat.le_refl _))⟩⟩
theorem pe_nget (hu : X.A.units + 64 < cLine) (ho : PE X o td) (hi : PE X i ty) (hs : NoSl i) : PE X (.Subscript o i pos) (tNGet X.prog X.w X.K td ty) := by
  refine ⟨fun pins s σ H Q I h => ?_⟩
  refine subD_of PySem.F.slot_dict_getitem.lookup hs (thn (ho.run pins s σ H _ I h) fun u s1 ⟨x, H1, I1, rx, q1⟩ => thn (hi.run pins s1 σ H1 _ I1 q1) fun iv s2 ⟨y, H2, I2, ry, p, b, ks, d, v, ex, ey, h1, h2, h3, h4, h5, q2⟩ => ?_)
  subst ex ey
  obtain rfl : u = Value.ref p := rx
  obtain rfl : iv = Value.ref b := ry
  exact ⟨n_typeIs I2 h1, n_get hu I2 h1 h2 h3 h4 h5 fun w' s3 I3 rw' => ⟨v, H2, I3, rw', q2⟩⟩
theorem pc_nin (hu : X.A.units + 64 < cLine) (hi : PE X i ty) (ho : PE X o td) : PC X .In i o (tNIn X.prog X.w X.K false ty td) := by
  refine ⟨fun pins s σ H Q I h => ?_⟩
  refine thn (hi.run pins s σ H _ I h) fun iv s1 ⟨y, H1, I1, ry, q1⟩ => thn (ho.run pins s1 σ H1 _ I1 q1) fun u s2 ⟨x, H2, I2, rx, p, b, ks, d, ex, ey, h1, h2, h3, h4, q2⟩ => ?_
  subst ex ey
  obtain rfl : u = Value.ref p := rx
  obtain rfl : iv = Value.ref b := ry
  exact n_contains hu I2 h1 h2 h3 h4 fun s3 I3 => ⟨.bl _, H2, I3, rfl, q2⟩
theorem pc_nnotin (hu : X.A.units + 64 < cLine) (hi : PE X i ty) (ho : PE X o td) : PC X .NotIn i o (tNIn X.prog X.w X.K true ty td) := by
  refine ⟨fun pins s σ H Q I h => ?_⟩
  refine thn (hi.run pins s σ H _ I h) fun iv s1 ⟨y, H1, I1, ry, q1⟩ => thn (ho.run pins s1 σ H1 _ I1 q1) fun u s2 ⟨x, H2, I2, rx, p, b, ks, d, ex, ey, h1, h2, h3, h4, q2⟩ => ?_
  subst ex ey
  obtain rfl : u = Value.ref p := rx
  obtain rfl : iv = Value.ref b := ry
  exact n_notin hu I2 h1 h2 h3 h4 fun s3 I3 => ⟨.bl _, H2, I3, rfl, q2⟩
theorem set_nd (hu : X.A.units + 64 < cLine) : PSet X (rSetN X.prog X.w X.K) := by
  intro pins s σ H o i v ov iv u Q I ro ri rv h
  obtain ⟨p, b, ks, d, rfl, rfl, h1, h2, h3, h4, hl, q⟩ := h
  cases ro
  cases ri
  exact n_set hu I h1 h2 h3 h4 rv hl fun s' I' => ⟨_, I', q⟩
/-- len(d) -/
theorem call_len_nd : CallR X (.builtin "len") (fun xs H Q => ∃ p ks, xs = [V.ref p] ∧ H p = some (DN X.prog X.w p ks) ∧ Q (.int ks.length) H) := by
  intro pins s σ H xs us Q I r h
  obtain ⟨p, ks, rfl, h1, q⟩ := h
  obtain ⟨u, rfl, rx⟩ := r.one
  cases rx
  obtain ⟨z, hs, xs, pr, o, es, ep, ho, hx, hd, he, hn⟩ := dn_of I h1
  have l1 : es.size = xs.length := size_of_entries he
  have l2 : ks.length = xs.length := Paired.length pr
  have raw : s.heap.DictRaw p es ep := ⟨o, ho, hx, hd⟩
  refine PyProof.Rows.call_len_slot (n := ks.length) (n_typeIs I h1) PySem.F.slot_dict_len (fun Q' hq => call_len_raw hs raw (by rw [l1, ← l2]; exact hq)) (by omega) (by rw [sizeLine_eq] at z; omega) ?_
  exact ⟨.int ks.length, H, I.tok _, ⟨_, rfl⟩, q⟩
/-- list(d): the keys' own tuples -/
theorem call_list_nd (hc : X.calm = true) : CallR X (.type "list") (fun xs H Q => ∃ p ks, xs = [V.ref p] ∧ H p = some (DN X.prog X.w p ks) ∧ ∀ q, H q = none → Q (.ref q) (upd H q (.lst (ks.map fun e => V.ref e.2.1)))) := by
  intro pins s σ H xs us Q I r h
  obtain ⟨p, ks, rfl, h1, q⟩ := h
  obtain ⟨u, rfl, rx⟩ := r.one
  cases rx
  obtain ⟨z, hs, xs, pr, o, es, ep, ho, hx, hdt, he, hn⟩ := dn_of I h1
  have l1 : es.size = xs.length := size_of_entries he
  have l2 : ks.length = xs.length := Paired.length pr
  refine PySem.W.kdl_call (kdl_raw hs hx hdt) (I.ok.hd hc) ho (by omega) fun h' tk acc' c' kp e it => ?_
  have ea : acc'.toList = xs.map fun x => Value.ref x.2.1 := by
    have hl : acc'.toList.length = xs.length := by rw [Array.length_toList, it.1]; exact l1
    apply List.ext_getElem?
    intro j
    rw [List.getElem?_map]
    cases hj : acc'.toList[j]? with
    | none =>
      have h1 := List.getElem?_eq_none_iff.mp hj
      rw [List.getElem?_eq_none (by omega)]
      all_goals rfl
    | some v =>
      obtain ⟨en, hen, hv⟩ := it.2 j v (by rw [← Array.getElem?_toList]; exact hj)
      have qe := entry_at he j
      rw [hen] at qe
      cases hb : xs[j]? with
      | none =>
        rw [hb] at qe
        exact nomatch (show some en = none from qe)
      | some b =>
        rw [hb] at qe
        have e2 : en = entryOfKey (nestedKind X.prog X.w) b := Option.some.inj qe
        rw [hv, e2]
        all_goals rfl
  have er : ∀ {ks : List NE} {xs : List (NestedKey × Addr × Value)}, Paired (fun (a : NE) (b : NestedKey × Addr × Value) => a.1 = b.1 ∧ a.2.1 = b.2.1 ∧ RelV a.2.2 b.2.2) ks xs → Vals (ks.map fun e => V.ref e.2.1) (xs.map fun x => Value.ref x.2.1) := by
    intro ks xs pr
    induction pr with
    | nil => exact .nil
    | cons r t ih => exact .cons (show _ = _ by rw [r.2.1]) ih
  have rv : Vals (ks.map fun e => V.ref e.2.1) acc'.toList := by rw [ea]; exact er pr
  refine ⟨.ref s.heap.objs.size, _, I.laid (t' := tk) (o := .lst (ks.map fun e => V.ref e.2.1)) kp (Nat.le_refl _) ?_, rfl, q _ (I.hok.fresh (Nat.le_refl _))⟩
  exact ⟨by rw [List.length_map]; exact z, acc'.toList, c', rv, by rw [Array.toArray_toList]; exact e⟩
end
/-! ### owned dicts, in the logic -/
/-- an owned dict: its keys, its values, in the order in which they came -/
def NdO (P : Program) (w : World) (K : PySem.W.Frag) (kvs : List (PyData × FP)) : OP := ⟨fun F p o => ∃ ks : List NE, o = DN P w p ks ∧ Paired (fun (e : NE) (x : PyData × FP) => KeyD x.1 ∧ e.1 = nkD x.1 ∧ Dq K F (.ref e.2.1) x.1 ∧ x.2.p F e.2.2) ks kvs,
  fun x ⟨ks, h1, h2⟩ => ⟨ks, h1, Paired.mapP h2 fun e y ⟨a, b, c, d⟩ => ⟨a, b, dq_ex x c, y.2.mono x d⟩⟩⟩
mutual
theorem nk_inj : ∀ {d e : PyData}, kOk d = true → kOk e = true → nkD d = nkD e → PyData.eqv d e = true
  | .none, .none, _, _, _ => rfl
  | .none, .bool b, _, _, h => by cases h
  | .none, .int i, _, _, h => by cases h
  | .none, .str z, _, _, h => by cases h
  | .none, .tuple z, _, _, h => by cases h
  | .bool b, .none, _, _, h => by cases h
  | .bool b, .bool c, _, _, h => by
    have h : NestedKey.num _ = NestedKey.num _ := h
    cases b <;> cases c <;> first | rfl | (simp at h)
  | .bool b, .int i, _, _, h => by
    have h : NestedKey.num _ = NestedKey.num _ := h
    injection h with h
    subst h
    cases b <;> rfl
  | .bool b, .str z, _, _, h => by cases h
  | .bool b, .tuple z, _, _, h => by cases h
  | .int i, .none, _, _, h => by cases h
  | .int i, .bool b, _, _, h => by
    have h : NestedKey.num _ = NestedKey.num _ := h
    injection h with h
    subst h
    cases b <;> rfl
  | .int i, .int j, _, _, h => by
    have h : NestedKey.num i = NestedKey.num j := h
    injection h with h
    subst h
    show (i == i) = true
    exact beq_self_eq_true i
  | .int i, .str z, _, _, h => by cases h
  | .int i, .tuple z, _, _, h => by cases h
  | .str z, .none, _, _, h => by cases h
  | .str z, .bool b, _, _, h => by cases h
  | .str z, .int i, _, _, h => by cases h
  | .str z, .str y, _, _, h => by
    have h : NestedKey.text z = NestedKey.text y := h
    injection h with h
    subst h
    show (z == z) = true
    exact beq_self_eq_true z
  | .str z, .tuple y, _, _, h => by cases h
  | .tuple xs, .none, _, _, h => by cases h
  | .tuple xs, .bool b, _, _, h => by cases h
  | .tuple xs, .int i, _, _, h => by cases h
  | .tuple xs, .str z, _, _, h => by cases h
  | .tuple xs, .tuple ys, k1, k2, h => by
    have h : NestedKey.tup (nkDs xs) = NestedKey.tup (nkDs ys) := h
    injection h with h
    exact nks_inj k1 k2 h
  | .list _, _, k, _, _ => by cases k
  | .dict _, _, k, _, _ => by cases k
  | .none, .list _, _, k, _ => by cases k
  | .none, .dict _, _, k, _ => by cases k
  | .bool _, .list _, _, k, _ => by cases k
  | .bool _, .dict _, _, k, _ => by cases k
  | .int _, .list _, _, k, _ => by cases k
  | .int _, .dict _, _, k, _ => by cases k
  | .str _, .list _, _, k, _ => by cases k
  | .str _, .dict _, _, k, _ => by cases k
  | .tuple _, .list _, _, k, _ => by cases k
  | .tuple _, .dict _, _, k, _ => by cases k
theorem nks_inj : ∀ {ds es : List PyData}, kOks ds = true → kOks es = true → nkDs ds = nkDs es → PyData.eqvAll ds es = true
  | [], [], _, _, _ => rfl
  | [], _ :: _, _, _, h => by cases h
  | _ :: _, [], _, _, h => by cases h
  | d :: ds, e :: es, k1, k2, h => by
    have a := Bool.and_eq_true_iff.mp k1
    have b := Bool.and_eq_true_iff.mp k2
    have h : nkD d :: nkDs ds = nkD e :: nkDs es := h
    injection h with h1 h2
    show (PyData.eqv d e && PyData.eqvAll ds es) = true
    rw [nk_inj a.1 b.1 h1, nks_inj a.2 b.2 h2]
    rfl
end
/-- what is there at a key -/
def lookD (kvs : List (PyData × FP)) (d : PyData) : Option FP := (kvs.find? fun e => decide (nkD e.1 = nkD d)).map (·.2)
theorem look_d {K : PySem.W.Frag} {F : Hp} {ks : List NE} {kvs : List (PyData × FP)} (d : PyData) (h : Paired (fun (e : NE) (x : PyData × FP) => KeyD x.1 ∧ e.1 = nkD x.1 ∧ Dq K F (.ref e.2.1) x.1 ∧ x.2.p F e.2.2) ks kvs) :
    (lookN ks (nkD d)).isSome = (lookD kvs d).isSome ∧ ∀ φ, lookD kvs d = some φ → ∃ v, lookN ks (nkD d) = some v ∧ φ.p F v := by
  induction h with
  | nil => exact ⟨rfl, fun φ e => by cases e⟩
  | @cons a c as cs r t ih =>
    by_cases q : nkD c.1 = nkD d
    · have e1 : lookN (a :: as) (nkD d) = some a.2.2 := by simp [lookN, List.find?, r.2.1, q]
      have e2 : lookD (c :: cs) d = some c.2 := by simp [lookD, List.find?, q]
      rw [e1, e2]
      exact ⟨rfl, fun φ e => by cases e; exact ⟨_, rfl, r.2.2.2⟩⟩
    · have e1 : lookN (a :: as) (nkD d) = lookN as (nkD d) := by simp [lookN, List.find?, r.2.1, q]
      have e2 : lookD (c :: cs) d = lookD cs d := by simp [lookD, List.find?, q]
      rw [e1, e2]
      exact ih
theorem ksOk_of {K : PySem.W.Frag} {F H : Hp} {ks : List NE} {kvs : List (PyData × FP)} (e : Ex F H) (h : Paired (fun (e : NE) (x : PyData × FP) => KeyD x.1 ∧ e.1 = nkD x.1 ∧ Dq K F (.ref e.2.1) x.1 ∧ x.2.p F e.2.2) ks kvs) : KsOk K H ks := by
  induction h with
  | nil => exact fun _ h => by cases h
  | cons r t ih =>
    intro x hx
    rcases List.mem_cons.mp hx with hx | hx
    · rw [hx]
      exact ⟨_, r.1, r.2.1, dq_ex e r.2.2.1⟩
    · exact ih x hx
section
variable {m : Fm} {P : Program} {w : World} {K : PySem.W.Frag} {Γ Γ' : List En} {ta tb te : TE} {φ ψ : FP} {kvs : List (PyData × FP)} {d : PyData} {i : Nat}
theorem eo_nnew : EO m Γ (tNNew P w) (NdO P w K []) := fun F H σ E Q q => fun p hp => eo_new (R := NdO P w K []) (o := DN P w p []) E hp (Ex.new hp) upd_same ⟨[], rfl, .nil⟩ q
theorem dd_ref {F : Hp} {v : V} {ds : List PyData} (h : Dq K F v (.tuple ds)) : ∃ b, v = .ref b := by
  cases h with
  | tup _ _ => exact ⟨_, rfl⟩
theorem eg_nin {neg : Bool} {ds : List PyData} (hi : Γ[i]? = some (.oo (NdO P w K kvs))) (ha : EG m Γ ta (Dd K (.tuple ds))) (kd : KeyD (.tuple ds)) : EG m Γ (tNIn P w K neg ta (tVar i)) (Dd K (.bool (if neg then !(lookD kvs (.tuple ds)).isSome else (lookD kvs (.tuple ds)).isSome))) := fun F H σ E Q q =>
  ha F H σ E _ fun y F1 H1 x1 E1 p1 => by
    obtain ⟨b, rfl⟩ := dd_ref p1
    obtain ⟨w', hw, p, o, e, nf, n0, ho, ks, eo, pr⟩ := E1.slot i _ hi
    subst e eo
    refine ⟨_, hw, p, b, ks, _, rfl, rfl, ho, ksOk_of E1.fh pr, kd, dq_ex E1.fh p1, ?_⟩
    rw [(look_d (.tuple ds) pr).1]
    exact q _ F1 H1 x1 E1 (Dq.bl _)
theorem eg_nget {ds : List PyData} (hi : Γ[i]? = some (.oo (NdO P w K kvs))) (hb : EG m Γ tb (Dd K (.tuple ds))) (kd : KeyD (.tuple ds)) (hv : lookD kvs (.tuple ds) = some φ) : EG m Γ (tNGet P w K (tVar i) tb) φ := fun F H σ E Q q => by
  obtain ⟨w0, hw, p, o, e, nf, n0, ho, ks, eo, pr⟩ := E.slot i _ hi
  subst e
  refine ⟨_, hw, hb F H σ E _ fun y F1 H1 x1 E1 p1 => ?_⟩
  obtain ⟨b, rfl⟩ := dd_ref p1
  obtain ⟨w', hw', p', o', e', nf', _, ho', ks', eo', pr'⟩ := E1.slot i _ hi
  rw [hw] at hw'
  cases hw'
  cases e'
  subst eo'
  obtain ⟨v, h1, h2⟩ := (look_d (.tuple ds) pr').2 φ hv
  exact ⟨p, b, ks', _, v, rfl, rfl, ho', ksOk_of E1.fh pr', kd, dq_ex E1.fh p1, h1, q v F1 H1 x1 E1 h2⟩
/-- d[k] = .., k not there -/
theorem to_nset {ds : List PyData} (hi : Γ[i]? = some (.oo (NdO P w K kvs))) (hb : EG m Γ tb (Dd K (.tuple ds))) (kd : KeyD (.tuple ds)) (hn : lookD kvs (.tuple ds) = none) (hl : kvs.length < 100000) : TGo m Γ (gSub (tVar i) tb (rSetN P w K)) φ (Γ.set i (.oo (NdO P w K (kvs ++ [(.tuple ds, φ)])))) := fun F H σ E v pv Q q => by
  obtain ⟨w0, hw, p, o, e, nf, n0, ho, ks, eo, pr⟩ := E.slot i _ hi
  subst e
  refine ⟨_, hw, hb F H σ E _ fun y F1 H1 x1 E1 p1 => ?_⟩
  obtain ⟨b, rfl⟩ := dd_ref p1
  obtain ⟨w', hw', p', o', e', nf', _, ho', ks', eo', pr'⟩ := E1.slot i _ hi
  rw [hw] at hw'
  cases hw'
  cases e'
  subst eo'
  have l := Paired.length pr'
  refine ⟨p, b, ks', _, rfl, rfl, ho', ksOk_of E1.fh pr', kd, dq_ex E1.fh p1, sz_lt (by omega), ?_⟩
  have n1 := (look_d (.tuple ds) pr').1
  rw [hn] at n1
  have ep : putN ks' (nkD (.tuple ds)) b v = ks' ++ [(nkD (.tuple ds), b, v)] := by
    unfold putN
    rw [n1]
    rfl
  rw [ep]
  refine q σ F1 _ x1.f (E1.mut hi hw ⟨_, rfl, ?_⟩)
  have app : ∀ {ks : List NE} {kvs : List (PyData × FP)}, Paired (fun (e : NE) (x : PyData × FP) => KeyD x.1 ∧ e.1 = nkD x.1 ∧ Dq K F1 (.ref e.2.1) x.1 ∧ x.2.p F1 e.2.2) ks kvs → Paired (fun (e : NE) (x : PyData × FP) => KeyD x.1 ∧ e.1 = nkD x.1 ∧ Dq K F1 (.ref e.2.1) x.1 ∧ x.2.p F1 e.2.2) (ks ++ [(nkD (.tuple ds), b, v)]) (kvs ++ [(.tuple ds, φ)]) := by
    intro ks kvs h
    induction h with
    | nil => exact .cons ⟨kd, rfl, p1, φ.mono x1.f pv⟩ .nil
    | cons r t ih => exact .cons r ih
  exact app pr'
theorem eg_nlen (hi : Γ[i]? = some (.oo (NdO P w K kvs))) : EG m Γ (tCB (fun xs H Q => ∃ p ks, xs = [V.ref p] ∧ H p = some (DN P w p ks) ∧ Q (.int ks.length) H) (tCons (tVar i) tNil)) (Dd K (.int (kvs.length : Int))) := fun F H σ E Q q => by
  obtain ⟨w0, hw, p, o, e, nf, n0, ho, ks, eo, pr⟩ := E.slot i _ hi
  subst e eo
  refine ⟨_, hw, p, ks, rfl, ho, ?_⟩
  rw [Paired.length pr]
  exact q _ F H XF.refl E (Dq.int _)
theorem eo_nlist (hi : Γ[i]? = some (.oo (NdO P w K kvs))) : EO m Γ (tCB (fun xs H Q => ∃ p ks, xs = [V.ref p] ∧ H p = some (DN P w p ks) ∧ ∀ q, H q = none → Q (.ref q) (upd H q (.lst (ks.map fun e => V.ref e.2.1)))) (tCons (tVar i) tNil)) (OwL (kvs.map fun x => Dd K x.1)) := fun F H σ E Q q => by
  obtain ⟨w0, hw, p, o, e, nf, n0, ho, ks, eo, pr⟩ := E.slot i _ hi
  subst e eo
  refine ⟨_, hw, p, ks, rfl, ho, fun b hb => eo_new (R := OwL (kvs.map fun x => Dd K x.1)) E hb (Ex.new hb) upd_same ⟨_, rfl, ?_⟩ q⟩
  have conv : ∀ {ks : List NE} {kvs : List (PyData × FP)}, Paired (fun (e : NE) (x : PyData × FP) => KeyD x.1 ∧ e.1 = nkD x.1 ∧ Dq K F (.ref e.2.1) x.1 ∧ x.2.p F e.2.2) ks kvs → Al F (ks.map fun e => V.ref e.2.1) (kvs.map fun x => Dd K x.1) := by
    intro ks kvs h
    induction h with
    | nil => exact .nil
    | cons r t ih => exact .cons r.2.2.1 ih
  exact conv pr
end
end SB

set_option maxHeartbeats 4000000
namespace SB
open PySem PySem.Spec PyProof.Rows L2
open TL (tl)
/-! ### two robots on a shelf -/
structure Sit where
  cs : List Nat
  ns : List Nat
  hs : List Bool
  bx : List Nat
  deriving DecidableEq
def lns (P : Plm) (r : Nat) : List Lk := if r = 0 then P.l0 else P.l1
def sit0 (P : Plm) : Sit := ⟨[P.a, P.b], [0, 0], [false, false], P.bx⟩
def atN (l : List Nat) (i : Nat) : Nat := l.getD i 0
def atB (l : List Bool) (i : Nat) : Bool := l.getD i false
def stepAt (P : Plm) (S : Sit) (r : Nat) : Lk := (lns P r).getD (atN S.ns r) ("", none)
/-- a robot that cannot do its step -/
def stuckM (S : Sit) (r : Nat) (w : Str) : Bool :=
  if w = "left" then decide (atN S.cs r = 0) || decide (atN S.cs r = atN S.cs (1 - r) + 1)
  else if w = "right" then decide (S.bx.length ≤ atN S.cs r + 1) || decide (atN S.cs r + 1 = atN S.cs (1 - r))
  else if w = "pick" then atB S.hs r || decide (atN S.bx (atN S.cs r) = 0)
  else if w = "put" then !atB S.hs r || decide (2 < atN S.bx (atN S.cs r))
  else false
def movedM (S : Sit) (r : Nat) (w : Str) : Sit :=
  if w = "left" then { S with cs := S.cs.set r (atN S.cs r - 1) }
  else if w = "right" then { S with cs := S.cs.set r (atN S.cs r + 1) }
  else if w = "pick" then { S with hs := S.hs.set r true, bx := S.bx.set (atN S.cs r) (atN S.bx (atN S.cs r) - 1) }
  else if w = "put" then { S with hs := S.hs.set r false, bx := S.bx.set (atN S.cs r) (atN S.bx (atN S.cs r) + 1) }
  else S
def jumpM (S : Sit) (r : Nat) (w : Str) : Bool := decide (w = "goto") || (decide (w = "empty") && decide (atN S.bx (atN S.cs r) = 0)) || (decide (w = "held") && atB S.hs r)
def nextM (P : Plm) (S : Sit) (r : Nat) (s : Lk) : Nat := if jumpM S r s.1 then s.2.getD 0 else (atN S.ns r + 1) % (lns P r).length
/-- what a robot does, and the situation behind it -/
def actM (P : Plm) (S : Sit) (r : Nat) : Str × Sit :=
  if stuckM S r (stepAt P S r).1 then ("blocked", S)
  else ((stepAt P S r).1, { movedM S r (stepAt P S r).1 with ns := S.ns.set r (nextM P S r (stepAt P S r)) })
def tickM (P : Plm) (S : Sit) : (Str × Str) × Sit := (((actM P S 0).1, (actM P (actM P S 0).2 1).1), (actM P (actM P S 0).2 1).2)
/-- steps that are right -/
structure StepsOk (l : List Lk) : Prop where
  lo : 1 ≤ l.length
  hi : l.length ≤ 20
  cmd : ∀ s ∈ l, s.1 ∈ commands
  tgt : ∀ s ∈ l, ∀ t, s.2 = some t → t < l.length
  way : ∀ s ∈ l, s.2.isSome = decide (s.1 ∈ jumps)
structure PlanOk (P : Plm) : Prop where
  lo : 3 ≤ P.bx.length
  hi : P.bx.length ≤ 12
  most : ∀ n ∈ P.bx, n ≤ 3
  la : P.a < P.bx.length
  lb : P.b < P.bx.length
  ab : P.a ≠ P.b
  k0 : StepsOk P.l0
  k1 : StepsOk P.l1
theorem PlanOk.ls {P : Plm} (h : PlanOk P) (r : Nat) : StepsOk (lns P r) := by
  unfold lns
  split
  · exact h.k0
  · exact h.k1
structure SitOk (P : Plm) (S : Sit) : Prop where
  c2 : S.cs.length = 2
  n2 : S.ns.length = 2
  h2 : S.hs.length = 2
  bl : S.bx.length = P.bx.length
  cl : ∀ r, r < 2 → atN S.cs r < S.bx.length
  nl : ∀ r, r < 2 → atN S.ns r < (lns P r).length
  b3 : ∀ i, atN S.bx i ≤ 3
theorem atN_get {l : List Nat} {i : Nat} (h : i < l.length) : l[i]? = some (atN l i) := by
  unfold atN
  rw [List.getD_eq_getElem?_getD, List.getElem?_eq_getElem h]
  rfl
theorem atB_get {l : List Bool} {i : Nat} (h : i < l.length) : l[i]? = some (atB l i) := by
  unfold atB
  rw [List.getD_eq_getElem?_getD, List.getElem?_eq_getElem h]
  rfl
theorem atN_set {l : List Nat} {i j x : Nat} : atN (l.set i x) j = if i = j ∧ i < l.length then x else atN l j := by
  unfold atN
  rw [List.getD_eq_getElem?_getD, List.getD_eq_getElem?_getD, List.getElem?_set]
  by_cases h : i = j
  · subst h
    by_cases c : i < l.length
    · simp [c]
    · simp [c, List.getElem?_eq_none (by omega : l.length ≤ i)]
  · simp [h]
theorem step_get {P : Plm} {S : Sit} (h : SitOk P S) {r : Nat} (hr : r < 2) : (lns P r)[atN S.ns r]? = some (stepAt P S r) := by
  unfold stepAt
  rw [List.getD_eq_getElem?_getD, List.getElem?_eq_getElem (h.nl r hr)]
  rfl
theorem step_mem {P : Plm} {S : Sit} (h : SitOk P S) {r : Nat} (hr : r < 2) : stepAt P S r ∈ lns P r := List.mem_of_getElem? (step_get h hr)
theorem sit0_ok {P : Plm} (h : PlanOk P) : SitOk P (sit0 P) := by
  refine ⟨rfl, rfl, rfl, rfl, fun r hr => ?_, fun r hr => ?_, fun i => ?_⟩
  · match r, hr with
    | 0, _ => exact h.la
    | 1, _ => exact h.lb
  · have := (h.ls r).lo
    match r, hr with
    | 0, _ => show 0 < _; omega
    | 1, _ => show 0 < _; omega
  · show atN P.bx i ≤ 3
    by_cases c : i < P.bx.length
    · exact h.most _ (List.mem_of_getElem? (atN_get c))
    · unfold atN
      rw [List.getD_eq_getElem?_getD, List.getElem?_eq_none (by omega)]
      exact Nat.zero_le _
theorem moved_ok {P : Plm} {S : Sit} (h : SitOk P S) {r : Nat} (hr : r < 2) {w : Str} (hs : stuckM S r w = false) : SitOk P (movedM S r w) ∧ (movedM S r w).ns = S.ns := by
  have hc := h.cl r hr
  unfold stuckM at hs
  unfold movedM
  split
  · rename_i e
    subst e
    rw [if_pos rfl] at hs
    simp only [Bool.or_eq_false_iff, decide_eq_false_iff_not] at hs
    refine ⟨⟨by simp [h.c2], h.n2, h.h2, h.bl, fun i hi => ?_, h.nl, h.b3⟩, rfl⟩
    have := h.cl i hi
    show atN (S.cs.set r _) i < S.bx.length
    rw [atN_set]
    split <;> omega
  · rename_i n1
    rw [if_neg n1] at hs
    split
    · rename_i e
      rw [if_pos e] at hs
      simp only [Bool.or_eq_false_iff, decide_eq_false_iff_not] at hs
      refine ⟨⟨by simp [h.c2], h.n2, h.h2, h.bl, fun i hi => ?_, h.nl, h.b3⟩, rfl⟩
      have := h.cl i hi
      show atN (S.cs.set r _) i < S.bx.length
      rw [atN_set]
      split <;> omega
    · rename_i n2
      rw [if_neg n2] at hs
      split
      · rename_i e
        rw [if_pos e] at hs
        simp only [Bool.or_eq_false_iff, decide_eq_false_iff_not] at hs
        refine ⟨⟨h.c2, h.n2, by simp [h.h2], by simp [h.bl], fun i hi => by simpa using h.cl i hi, h.nl, fun i => ?_⟩, rfl⟩
        have := h.b3 i
        have := h.b3 (atN S.cs r)
        show atN (S.bx.set _ _) i ≤ 3
        rw [atN_set]
        split <;> omega
      · rename_i n3
        rw [if_neg n3] at hs
        split
        · rename_i e
          rw [if_pos e] at hs
          simp only [Bool.or_eq_false_iff, decide_eq_false_iff_not, Bool.not_eq_false'] at hs
          refine ⟨⟨h.c2, h.n2, by simp [h.h2], by simp [h.bl], fun i hi => by simpa using h.cl i hi, h.nl, fun i => ?_⟩, rfl⟩
          have := h.b3 i
          have := h.b3 (atN S.cs r)
          show atN (S.bx.set _ _) i ≤ 3
          rw [atN_set]
          split <;> omega
        · exact ⟨h, rfl⟩
theorem moved_lr {S : Sit} {r : Nat} {w : Str} (h : w = "left" ∨ w = "right") (hs : stuckM S r w = false) : ∃ c : Nat, (movedM S r w).cs = S.cs.set r c ∧ (c : Int) = (atN S.cs r : Int) + (if w = "right" then 1 else -1) ∧ (movedM S r w).hs = S.hs ∧ (movedM S r w).bx = S.bx := by
  unfold movedM
  unfold stuckM at hs
  rcases h with h | h
  · subst h
    rw [if_pos rfl] at hs ⊢
    simp only [Bool.or_eq_false_iff, decide_eq_false_iff_not] at hs
    refine ⟨atN S.cs r - 1, rfl, ?_, rfl, rfl⟩
    rw [if_neg (by decide +kernel)]
    omega
  · subst h
    rw [if_neg (by decide +kernel), if_pos rfl]
    refine ⟨atN S.cs r + 1, rfl, ?_, rfl, rfl⟩
    rw [if_pos rfl]
    omega
theorem moved_pick {S : Sit} {r : Nat} : movedM S r "pick" = { S with hs := S.hs.set r true, bx := S.bx.set (atN S.cs r) (atN S.bx (atN S.cs r) - 1) } := by
  unfold movedM
  rw [if_neg (by decide +kernel), if_neg (by decide +kernel), if_pos rfl]
theorem moved_put {S : Sit} {r : Nat} : movedM S r "put" = { S with hs := S.hs.set r false, bx := S.bx.set (atN S.cs r) (atN S.bx (atN S.cs r) + 1) } := by
  unfold movedM
  rw [if_neg (by decide +kernel), if_neg (by decide +kernel), if_neg (by decide +kernel), if_pos rfl]
theorem stuck_pick {S : Sit} {r : Nat} : stuckM S r "pick" = (atB S.hs r || decide (atN S.bx (atN S.cs r) = 0)) := by
  unfold stuckM
  rw [if_neg (by decide +kernel), if_neg (by decide +kernel), if_pos rfl]
theorem stuck_put {S : Sit} {r : Nat} : stuckM S r "put" = (!atB S.hs r || decide (2 < atN S.bx (atN S.cs r))) := by
  unfold stuckM
  rw [if_neg (by decide +kernel), if_neg (by decide +kernel), if_neg (by decide +kernel), if_pos rfl]
theorem moved_other {S : Sit} {r : Nat} {w : Str} (h : ¬ (w = "left" ∨ w = "right")) (h2 : w ≠ "pick") (h3 : w ≠ "put") : movedM S r w = S := by
  unfold movedM
  rw [if_neg (fun e => h (.inl e)), if_neg (fun e => h (.inr e)), if_neg h2, if_neg h3]
theorem stuck_other {S : Sit} {r : Nat} {w : Str} (h : ¬ (w = "left" ∨ w = "right")) (h2 : w ≠ "pick") (h3 : w ≠ "put") : stuckM S r w = false := by
  unfold stuckM
  rw [if_neg (fun e => h (.inl e)), if_neg (fun e => h (.inr e)), if_neg h2, if_neg h3]
theorem next_lt {P : Plm} (hP : PlanOk P) {S : Sit} (h : SitOk P S) {r : Nat} (hr : r < 2) : nextM P S r (stepAt P S r) < (lns P r).length := by
  have hl := (hP.ls r).lo
  unfold nextM
  split
  · cases e : (stepAt P S r).2 with
    | none => show 0 < _; omega
    | some t => exact (hP.ls r).tgt _ (step_mem h hr) t e
  · exact Nat.mod_lt _ (by omega)
theorem act_ok {P : Plm} (hP : PlanOk P) {S : Sit} (h : SitOk P S) {r : Nat} (hr : r < 2) : SitOk P (actM P S r).2 := by
  unfold actM
  split
  · exact h
  · rename_i hs
    have hs : stuckM S r (stepAt P S r).1 = false := by simpa using hs
    obtain ⟨m, e⟩ := moved_ok h hr hs
    refine ⟨m.c2, by simp [h.n2], m.h2, m.bl, m.cl, fun i hi => ?_, m.b3⟩
    show atN (S.ns.set r _) i < _
    rw [atN_set]
    have := h.nl i hi
    split
    · rename_i c
      rw [← c.1]
      exact next_lt hP h hr
    · exact this
theorem tick_ok {P : Plm} (hP : PlanOk P) {S : Sit} (h : SitOk P S) : SitOk P (tickM P S).2 := act_ok hP (act_ok hP h (by omega)) (by omega)
/-- the situation before tick n -/
def sitAt (P : Plm) : Nat → Sit
  | 0 => sit0 P
  | n + 1 => (tickM P (sitAt P n)).2
theorem sitAt_ok {P : Plm} (hP : PlanOk P) : ∀ n, SitOk P (sitAt P n)
  | 0 => sit0_ok hP
  | n + 1 => tick_ok hP (sitAt_ok hP n)
/-- what both robots do in tick n -/
def wordsAt (P : Plm) (n : Nat) : Str × Str := (tickM P (sitAt P n)).1
/-! ### cycles -/
theorem sitAt_add {P : Plm} {i j : Nat} (h : sitAt P i = sitAt P j) : ∀ k, sitAt P (i + k) = sitAt P (j + k)
  | 0 => h
  | k + 1 => by
    show (tickM P (sitAt P (i + k))).2 = (tickM P (sitAt P (j + k))).2
    rw [sitAt_add h k]
/-- the cycle: its beginning, its length -/
structure Cyc (P : Plm) (b l : Nat) : Prop where
  pos : 0 < l
  new : ∀ i j, i < j → j < b + l → sitAt P i ≠ sitAt P j
  back : sitAt P (b + l) = sitAt P b
theorem Cyc.turn {P : Plm} {b l : Nat} (c : Cyc P b l) : ∀ (q k : Nat), sitAt P (b + (k + q * l)) = sitAt P (b + k)
  | 0, k => by rw [Nat.zero_mul, Nat.add_zero]
  | q + 1, k => by
    have h := sitAt_add c.back (k + q * l)
    rw [show b + (k + (q + 1) * l) = b + l + (k + q * l) by rw [Nat.add_mul, Nat.one_mul]; omega, h]
    exact Cyc.turn c q k
/-- the first tick with the same situation -/
def keptM (b l t : Nat) : Nat := if t < b then t else b + (t - b) % l
theorem Cyc.kept {P : Plm} {b l : Nat} (c : Cyc P b l) (t : Nat) : sitAt P (keptM b l t) = sitAt P t := by
  unfold keptM
  split
  · rfl
  · rename_i h
    have e := Nat.mod_add_div (t - b) l
    have := c.turn ((t - b) / l) ((t - b) % l)
    rw [show b + ((t - b) % l + (t - b) / l * l) = t by rw [Nat.mul_comm]; omega] at this
    exact this.symm
theorem Cyc.kept_lt {P : Plm} {b l : Nat} (c : Cyc P b l) (t : Nat) : keptM b l t < b + l := by
  unfold keptM
  have := c.pos
  split
  · omega
  · have := Nat.mod_lt (t - b) this
    omega
theorem Cyc.uniq {P : Plm} {b l b' l' : Nat} (c : Cyc P b l) (c' : Cyc P b' l') : b = b' ∧ l = l' := by
  have h1 : b + l = b' + l' := by
    rcases Nat.lt_trichotomy (b + l) (b' + l') with h | h | h
    · exact absurd c.back.symm (c'.new b (b + l) (by have := c.pos; omega) h)
    · exact h
    · exact absurd c'.back.symm (c.new b' (b' + l') (by have := c'.pos; omega) h)
  have h2 : sitAt P b = sitAt P b' := by rw [← c.back, ← c'.back, h1]
  rcases Nat.lt_trichotomy b b' with h | h | h
  · exact absurd h2 (c'.new b b' h (by have := c'.pos; omega))
  · exact ⟨h, by omega⟩
  · exact absurd h2.symm (c.new b' b h (by have := c.pos; omega))
theorem Cyc.words {P : Plm} {b l : Nat} (c : Cyc P b l) (t : Nat) : wordsAt P (keptM b l t) = wordsAt P t := by
  unfold wordsAt
  rw [c.kept]
/-- a plan that repeats within some ticks -/
def Repeats (P : Plm) (n : Nat) : Prop := ∃ i j, i < j ∧ j ≤ n ∧ sitAt P i = sitAt P j
/-! ### as data -/
def iD (n : Nat) : PyData := .int (n : Int)
def intsD (l : List Nat) : List PyData := l.map iD
def boolsD (l : List Bool) : List PyData := l.map .bool
def goalD : Option Nat → PyData
  | none => .none
  | some t => iD t
def stepD (s : Lk) : PyData := .tuple [.str s.1, goalD s.2]
def stepsD (l : List Lk) : PyData := .list (l.map stepD)
/-- the law's plan, its situation -/
def planD (P : Plm) : PyData := .tuple [.tuple (intsD P.bx), .tuple [iD P.a, iD P.b], .list [stepsD P.l0, stepsD P.l1]]
def sitD (S : Sit) : PyData := .list [.list (intsD S.cs), .list (intsD S.ns), .list (boolsD S.hs), .list (intsD S.bx)]
def wordsD (w : Str × Str) : PyData := .tuple [.str w.1, .str w.2]
end SB

set_option maxHeartbeats 4000000
namespace SB
open PySem PySem.Spec PyProof.Rows L2
open TL (tl)
open Evl
section
variable {m : Fm} {K : PySem.W.Frag} {Γ Γ' : List En} {ta tb tc te : TE} {t u : TT} {φ φ1 φ2 ψ : FP} {r : R2} {R : OP} {tu tw tz : TS} {po : Po} {g : TG} {XE : XK} {ds : List PyData}
theorem eg_listT (h : EG m Γ te (Dd K (.tuple ds))) : EG m Γ (tCB (rListS K) (tCons te tNil)) (Dd K (.list ds)) := eg_eoD (eo_listT (eg_le h dp_tup))
theorem eg_listL (h : EG m Γ te (Dd K (.list ds))) : EG m Γ (tCB (rListS K) (tCons te tNil)) (Dd K (.list ds)) := eg_eoD (eo_list (eg_le h dp_lst))
theorem eg_tupL (h : EG m Γ te (Dd K (.list ds))) : EG m Γ (tCB (fun xs H Q => ∃ p ys, xs = [V.ref p] ∧ ((SqL K H p ys ∧ ∀ l, H l = none → Q (V.ref l) (upd H l (.tup ys))) ∨ (SqT K H p ys ∧ Q (V.ref p) H))) (tCons te tNil)) (Dd K (.tuple ds)) := eg_le (eg_tupOf (eg_le h dp_lst)) tup_dp
/-- names, one after another -/
def gNs : List Nat → TGs
  | [] => gNil
  | i :: is => gCons (gName i) (gNs is)
def setOs (Γ : List En) : List Nat → List OP → List En
  | i :: is, R :: Rs => setOs (Γ.set i (.oo R)) is Rs
  | _, _ => Γ
/-- new lists of one's own, stored -/
theorem sets_ok {F H : Hp} : ∀ {is : List Nat} {us : List Addr} {Rs : List OP} {σ : L2.St} {Γ : List En} {Q : L2.St → Hp → Prop}, GE m F H σ Γ → is.length = us.length → Paired (fun u R => F u = none ∧ m.H0 u = none ∧ ∃ o, H u = some o ∧ OP.r R F u o) us Rs → us.Nodup →
    (∀ u ∈ us, ∀ (i : Nat) S, Γ[i]? = some (.oo S) → σ[i]? ≠ some (some (.ref u))) → (∀ σ', GE m F H σ' (setOs Γ is Rs) → Q σ' H) → gNs is (us.map V.ref) σ H Q
  | [], [], [], σ, Γ, Q, E, _, .nil, _, _, q => ⟨rfl, q σ E⟩
  | i :: is, u :: us, R :: Rs, σ, Γ, Q, E, hl, .cons h t, nd, na, q => by
    obtain ⟨n1, n2⟩ := List.nodup_cons.mp nd
    obtain ⟨nf, n0, o, ho, hr⟩ := h
    have E1 : GE m F H (σ.set i (some (.ref u))) (Γ.set i (.oo R)) := E.set ⟨u, o, rfl, nf, n0, ho, hr⟩ fun R' p' e e2 j S hj hS => by
      cases e2
      exact na u (List.mem_cons_self ..) j S hS
    refine ⟨_, _, rfl, sets_ok E1 (Nat.succ.inj hl) t n2 (fun w hw j S hS hj => ?_) q⟩
    rcases getSet hS with ⟨rfl, _, l⟩ | ⟨n, hS⟩
    · rw [List.getElem?_set_self (by rw [E.len]; exact l)] at hj
      cases hj
      exact n1 hw
    · rw [List.getElem?_set_ne n] at hj
      exact na w (List.mem_cons_of_mem _ hw) j S hS hj
theorem paired_app {α β : Type} {R : α → β → Prop} : ∀ {as : List α} {bs : List β} {a : α} {b : β}, Paired R as bs → R a b → Paired R (as ++ [a]) (bs ++ [b])
  | _, _, _, _, .nil, h => .cons h .nil
  | _, _, _, _, .cons r t, h => .cons r (paired_app t h)
theorem paired_mem {α β : Type} {R : α → β → Prop} : ∀ {as : List α} {bs : List β} {a : α}, Paired R as bs → a ∈ as → ∃ b, R a b
  | _, _, a, .nil, h => by cases h
  | _, _, a, .cons r t, h => by
    rcases List.mem_cons.mp h with h | h
    · rw [h]
      exact ⟨_, r⟩
    · exact paired_mem t h
/-- a, b, .. = [list(x) for x in xs] -/
theorem q_copyG {s j n : Nat} {is : List Nat} {dss : List (List PyData)} (hs : Γ[s]? = some (.fx (Dd K (.list (dss.map .list))))) (hz : dss.length ≤ 1000) (hn : dss.length = n) (hi : is.length = n) (hj : j < Γ.length) (k : SG m (setOs Γ is (dss.map fun ds => OwL (ds.map (Dd K)))) tz po) :
    SG m Γ (tSeq (tAsg (tLc (iList K (tVar s)) (gName j) tYes (tCB (rListS K) (tCons (tVar j) tNil)) [j]) (gUnl K n (gNs is))) tz) po := fun F H σ E D q => by
  obtain ⟨w, hw, v, e, hv⟩ := E.slot s _ hs
  subst e
  obtain ⟨a, vs, ev, ha, al⟩ := dp_lst hv
  subst ev
  have hl : vs.length = dss.length := by
    have := al_len al
    simpa using this
  have at_ : ∀ {i : Nat} {v : V}, vs[i]? = some v → ∃ ds b ws, dss[i]? = some ds ∧ v = .ref b ∧ F b = some (.lst ws) ∧ Al F ws (ds.map (Dd K)) := fun {i v} h => by
    obtain ⟨φ, h1, h2⟩ := al_getF al h
    rw [List.map_map, List.getElem?_map] at h1
    cases q : dss[i]? with
    | none => rw [q] at h1; cases h1
    | some ds =>
      rw [q] at h1
      cases h1
      obtain ⟨b, ws, e1, e2, e3⟩ := dp_lst h2
      exact ⟨ds, b, ws, rfl, e1, e2, e3⟩
  refine ⟨.ref a, hw, a, rfl, ⟨vs, sq_of (E.fh _ _ ha)⟩, fun Dl hD => ?_⟩
  refine lc_list (xs := vs) (fun i H' => Ex H H' ∧ ∃ us : List Addr, us.length = i ∧ H' Dl = some (.lst (us.map V.ref)) ∧ us.Nodup ∧ Paired (fun u ds => u ≠ Dl ∧ H u = none ∧ ∃ ws, H' u = some (.lst ws) ∧ Al F ws (List.map (Dd K) ds)) us (dss.take i)) ⟨Ex.new hD, [], rfl, upd_same, List.nodup_nil, .nil⟩ (fun i H' _ ⟨e, _⟩ => sq_of ((E.fh.trans e) _ _ ha)) ?_ ?_
  · rintro i v H' hi ⟨e, us, l, hD', nd, pr⟩
    have hil := (List.getElem?_eq_some_iff.mp hi).1
    obtain ⟨ds, b, ws, h1, rfl, h2, h3⟩ := at_ hi
    refine ⟨?_, .ref b, ?_, b, ws, rfl, .inl (sq_of ((E.fh.trans e) _ _ h2)), fun u hu => ?_⟩
    · refine wipe_eq (by rw [List.length_set, wipe_length]) fun x hx => ?_
      have hx' : x ≠ j := by simpa using hx
      rw [List.getElem?_set_ne (Ne.symm hx'), wipe_out hx]
    · exact List.getElem?_set_self (by rw [wipe_length, E.len]; exact hj)
    · have uD : u ≠ Dl := Ne.symm (ne_of_none hD' hu)
      have hu0 : H u = none := fresh_back e hu
      have e2 : Ex H' (upd H' u (.lst ws)) := Ex.new hu
      refine ⟨us.map V.ref, e2 _ _ hD', by rw [List.length_map]; exact sz_lt (by omega), Ex.mut (e.trans e2) hD, us ++ [u], by simp [l], ?_, ?_, ?_⟩
      · rw [upd_same, List.map_append]
        rfl
      · rw [List.nodup_append]
        refine ⟨nd, by simp, fun x hx y hy c => ?_⟩
        rw [List.mem_singleton.mp hy] at c
        obtain ⟨ds, _, _, ws, r1, _⟩ := paired_mem pr hx
        rw [c, hu] at r1
        cases r1
      · rw [take_more h1]
        refine paired_app (Paired.mapP pr fun x dd ⟨n1, n2, ws, r1, r2⟩ => ⟨n1, n2, ws, ?_, r2⟩) ⟨uD, hu0, ws, ?_, h3⟩
        · rw [upd_ne n1]
          exact e2 _ _ r1
        · rw [upd_ne uD, upd_same]
  · rintro H' ⟨e, us, l, hD', nd, pr⟩
    rw [hl, List.take_length] at pr
    have E' := E.grow e
    refine ⟨Dl, us.map V.ref, rfl, sq_of hD', by rw [List.length_map, l, hl]; exact hn, ?_⟩
    have prO : ∀ {us : List Addr} {dd : List (List PyData)}, Paired (fun u ds => u ≠ Dl ∧ H u = none ∧ ∃ ws, H' u = some (.lst ws) ∧ Al F ws (List.map (Dd K) ds)) us dd → Paired (fun u R => F u = none ∧ m.H0 u = none ∧ ∃ o, H' u = some o ∧ OP.r R F u o) us (dd.map fun ds => OwL (ds.map (Dd K))) := by
      intro us dd pr
      induction pr with
      | nil => exact .nil
      | cons r t ih =>
        obtain ⟨n1, n2, ws, r1, r2⟩ := r
        exact .cons ⟨fresh_F E n2, E.fresh0 n2, _, r1, ws, rfl, r2⟩ ih
    refine sets_ok E' (by rw [hi, l, hl]; exact hn.symm) (prO pr) nd (fun u hu i S hS hi2 => ?_) fun σ' E2 => k F H' σ' E2 D q
    obtain ⟨ds, _, n2, _⟩ := paired_mem pr hu
    exact E.alone n2 i S hS hi2
end
end SB
namespace SB
open PySem PySem.Spec PyProof.Rows L2
open Evl
theorem at_nat' {α : Type} {xs : List α} {i : Nat} {v : α} (h : xs[i]? = some v) : atI xs (i : Int) = some v := by
  unfold atI
  have hi : i < xs.length := (List.getElem?_eq_some_iff.mp h).1
  rw [ixN_nat hi]
  exact h
end SB
namespace SB
open PySem PySem.Spec PyProof.Rows L2
open Evl
section
variable {m : Fm} {K : PySem.W.Frag} {Γ Γ' : List En} {ts : TS} {po : Po} {i : Nat}
theorem sg_eq (Γ' : List En) (k : SG m Γ' ts po) (h : Γ = Γ' := by rfl) : SG m Γ ts po := by rw [h]; exact k
theorem sg_un (i : Nat) (k : SG m (Γ.set i .un) ts po) : SG m Γ ts po := fun F H σ E D q => k F H σ (E.weak (fun _ _ _ _ => trivial) (fun R e => by cases e)) D q
end
end SB
namespace SB
open PySem PySem.Spec PyProof.Rows L2
open Evl
section
variable {m : Fm} {K : PySem.W.Frag} {Γ Γ' : List En} {ta tb te : TE} {t : TT} {tu tw : TS} {po : Po} {φ : FP} {g : TG} {i : Nat} {R : OP}
theorem s_asgT (h : EG m Γ te φ) (ht : TGo m Γ g φ Γ') (k : po.nx Γ') : SG m Γ (tAsg te g) po := fun F H σ E D q => q_asgT (tz := tNext) (po := po) h ht (sg_next k) F H σ E D q
theorem s_asgG {i : Nat} (h : EG m Γ te φ) (k : po.nx (Γ.set i (.fx φ))) : SG m Γ (tAsg te (gName i)) po := s_asgT h to_name k
theorem s_whenG {P : Bool → Prop} (h : BG m Γ t P) (h1 : P true → SG m Γ tu po) (h2 : P false → po.nx Γ) : SG m Γ (tIfS t tu tNext) po := sg_if h h1 fun p => sg_next (h2 p)
theorem q_skip {tz : TS} {P : Bool → Prop} (h : BG m Γ t P) (h1 : ¬ P true) (h2 : P false → SG m Γ tz po) : SG m Γ (tSeq (tIfS t tu tNext) tz) po := q_ifG h (fun p => absurd p h1) h2
/-- x in [a, b] of texts -/
theorem bg_inS {neg : Bool} {z : Str} {ws : List Str} (ha : EG m Γ ta (Dd K (.str z))) (hb : EG m Γ tb (Dd K (.list (ws.map .str)))) : BG m Γ (tTest (tOp (rIn K neg) ta tb)) (· = (if neg then !decide (z ∈ ws) else decide (z ∈ ws))) :=
  bg_is (bg_test (eg_inF (xs := ws.map V.str) ha hb rfl (by rw [List.map_map, List.map_map]; rfl) rfl (flat_strs ws))) (by rw [inV_strs])
theorem eg_eqI0 {a b : Int} (ha : EG m Γ ta (Dd K (.int a))) (hb : EG m Γ tb (Dd K (.int b))) : EG m Γ (tOp rEq ta tb) (Dd K (.bool (decide (a = b)))) := eg_eqI ha hb
theorem bg_b0 {b : Bool} (h : EG m Γ te (Dd K (.bool b))) : BG m Γ (tB te) (· = b) := bg_B h
/-- 0 <= x < n -/
theorem eg_chainI {p p' : Int → Int → Bool} {a b c : Int} {tc : TE} (ha : EG m Γ ta (Dd K (.int a))) (hb : EG m Γ tb (Dd K (.int b))) (hc : EG m Γ tc (Dd K (.int c))) : EG m Γ (tChain (rI0 fun i j => V.bl (p i j)) (rI0 fun i j => V.bl (p' i j)) ta tb tc) (Dd K (.bool (p a b && p' b c))) :=
  eg_chain ha hb (fun _ => hc) (fun F H x y _ p1 p2 => by rw [dd_int p1, dd_int p2]; exact rv_I0) (fun _ F H y z _ p1 p2 => by rw [dd_int p1, dd_int p2]; exact rv_I0)
end
theorem bools_at {l : List Bool} {i : Nat} {K : PySem.W.Frag} (h : i < l.length) : atI ((boolsD l).map (Dd K)) (i : Int) = some (Dd K (.bool (atB l i))) := by
  unfold boolsD
  rw [List.map_map]
  exact at_nat' (by rw [List.getElem?_map, atB_get h]; rfl)
theorem nums_at' {l : List Nat} {i : Nat} {K : PySem.W.Frag} (h : i < l.length) : atI ((intsD l).map (Dd K)) (i : Int) = some (Dd K (iD (atN l i))) := by
  unfold intsD
  rw [List.map_map]
  exact at_nat' (by rw [List.getElem?_map, atN_get h]; rfl)
theorem ints_set {l : List Nat} {i x : Nat} {K : PySem.W.Frag} : ((intsD l).map (Dd K)).set i (Dd K (iD x)) = (intsD (l.set i x)).map (Dd K) := by
  unfold intsD
  rw [List.map_set, List.map_set]
theorem bools_set {l : List Bool} {i : Nat} {x : Bool} {K : PySem.W.Frag} : ((boolsD l).map (Dd K)).set i (Dd K (.bool x)) = (boolsD (l.set i x)).map (Dd K) := by
  unfold boolsD
  rw [List.map_set, List.map_set]
theorem ints_len {l : List Nat} {K : PySem.W.Frag} : ((intsD l).map (Dd K)).length = l.length := by simp [intsD]
theorem bools_len {l : List Bool} {K : PySem.W.Frag} : ((boolsD l).map (Dd K)).length = l.length := by simp [boolsD]
end SB
namespace SB
open PySem PySem.Spec PyProof.Rows L2
open Evl
theorem sg_frzD {m : Fm} {K : PySem.W.Frag} {Γ : List En} {ts : TS} {po : Po} {i : Nat} {ds : List PyData} (hi : Γ[i]? = some (.oo (OwL (ds.map (Dd K))))) (k : SG m (Γ.set i (.fx (Dd K (.list ds)))) ts po) : SG m Γ ts po := by
  refine sg_frz (K := K) hi (sg_le (i := i) (φ := LstF K (ds.map (Dd K))) (List.getElem?_set_self (List.getElem?_eq_some_iff.mp hi).1) lst_dp ?_)
  rw [List.set_set]
  exact k
end SB
namespace SB
open PySem PySem.Spec PyProof.Rows L2
open Evl
section
variable {m : Fm} {K : PySem.W.Frag} {Γ Γ' : List En} {ta tb te te2 : TE} {t : TT} {tu tw tz : TS} {po : Po} {φ φ2 : FP} {g : TG} {i j : Nat} {R : OP}
/-- x, y = e, e2 -/
theorem q_parFF (h : EG m Γ te φ) (h2 : EG m Γ te2 φ2) (k : SG m ((Γ.set i (.fx φ)).set j (.fx φ2)) tz po) : SG m Γ (tSeq (tPar i j (tCons te (tCons te2 tNil))) tz) po := fun F H σ E D q =>
  h F H σ E _ fun v F1 H1 x1 E1 p1 => h2 F1 H1 σ E1 _ fun w F2 H2 x2 E2 p2 => ⟨v, w, rfl, k F2 H2 _ ((E2.setF (φ.mono x2.f p1)).setF p2) D (q.mono (x1.f.trans x2.f))⟩
theorem q_parFO (h : EG m Γ te φ) (h2 : EO m Γ te2 R) (k : SG m ((Γ.set i (.fx φ)).set j (.oo R)) tz po) : SG m Γ (tSeq (tPar i j (tCons te (tCons te2 tNil))) tz) po := fun F H σ E D q =>
  h F H σ E _ fun v F1 H1 x1 E1 p1 => h2 F1 H1 σ E1 _ fun p o F2 H2 x2 E2 nf hp ho n0 hr na => ⟨v, .ref p, rfl, k F2 H2 _ ((E2.setF (φ.mono x2.f p1)).set ⟨p, o, rfl, nf, n0, ho, hr⟩ fun R' p' e e2 j' S hj hS hj' => by
    cases e2
    rcases getSet hS with ⟨_, e, _⟩ | ⟨n, hS⟩
    · cases e
    · rw [List.getElem?_set_ne n] at hj'
      exact na j' S hS hj') D (q.mono (x1.f.trans x2.f))⟩
theorem q_asgE (h : EG m Γ te φ) {α : Type} {S : α → Prop} {f : α → FP} (e : φ = FP.ex S f) (hi : i < Γ.length) (k : ∀ a, S a → SG m (Γ.set i (.fx (f a))) tz po) : SG m Γ (tSeq (tAsg te (gName i)) tz) po := by
  subst e
  refine q_asgG h (sg_case (i := i) (S := S) (f := f) (List.getElem?_set_self hi) fun a ha => ?_)
  rw [List.set_set]
  exact k a ha
/-- two of many, side by side -/
theorem q_parEF {α : Type} {S : α → Prop} {f : α → FP} (h : EG m Γ te (FP.ex S f)) (h2 : EG m Γ te2 φ2) (hi : i < Γ.length) (hij : i ≠ j) (k : ∀ a, S a → SG m ((Γ.set i (.fx (f a))).set j (.fx φ2)) tz po) : SG m Γ (tSeq (tPar i j (tCons te (tCons te2 tNil))) tz) po := by
  refine q_parFF h h2 (sg_case (i := i) (S := S) (f := f) (by rw [List.getElem?_set_ne (Ne.symm hij)]; exact List.getElem?_set_self hi) fun a ha => ?_)
  rw [List.set_comm _ _ (Ne.symm hij), List.set_set]
  exact k a ha
theorem q_parEO {α : Type} {S : α → Prop} {f : α → FP} (h : EG m Γ te (FP.ex S f)) (h2 : EO m Γ te2 R) (hi : i < Γ.length) (hij : i ≠ j) (k : ∀ a, S a → SG m ((Γ.set i (.fx (f a))).set j (.oo R)) tz po) : SG m Γ (tSeq (tPar i j (tCons te (tCons te2 tNil))) tz) po := by
  refine q_parFO h h2 (sg_case (i := i) (S := S) (f := f) (by rw [List.getElem?_set_ne (Ne.symm hij)]; exact List.getElem?_set_self hi) fun a ha => ?_)
  rw [List.set_comm _ _ (Ne.symm hij), List.set_set]
  exact k a ha
end
end SB
namespace SB
open PySem PySem.Spec PyProof.Rows L2
open Evl
/-! ### situations as keys -/
def keyL (S : Sit) : PyData := .tuple [.tuple (intsD S.cs), .tuple (intsD S.ns), .tuple (boolsD S.hs), .tuple (intsD S.bx)]
def keyP (S : Sit) : PyData := .tuple [.tuple (intsD S.cs), .tuple (boolsD S.hs), .tuple (intsD S.ns), .tuple (intsD S.bx)]
theorem kOks_ints : ∀ l : List Nat, kOks (intsD l) = true
  | [] => rfl
  | _ :: r => kOks_ints r
theorem kOks_bools : ∀ l : List Bool, kOks (boolsD l) = true
  | [] => rfl
  | _ :: r => kOks_bools r
theorem nk_ints : ∀ l : List Nat, nkDs (intsD l) = l.map fun (n : Nat) => NestedKey.num (n : Int)
  | [] => rfl
  | a :: r => by
    show NestedKey.num (a : Int) :: nkDs (intsD r) = _
    rw [nk_ints r]
    rfl
theorem nk_bools : ∀ l : List Bool, nkDs (boolsD l) = l.map fun b => NestedKey.num (if b = true then 1 else 0)
  | [] => rfl
  | a :: r => by
    show NestedKey.num _ :: nkDs (boolsD r) = _
    rw [nk_bools r]
    rfl
theorem depth_ints : ∀ l : List Nat, NestedKey.depthAll (nkDs (intsD l)) ≤ 2
  | [] => Nat.le_of_ble_eq_true rfl
  | a :: r => by
    have := depth_ints r
    show max (NestedKey.depth (.num (a : Int))) (NestedKey.depthAll (nkDs (intsD r))) ≤ 2
    have h : NestedKey.depth (.num (a : Int)) ≤ 2 := Nat.le_of_ble_eq_true rfl
    omega
theorem depth_bools : ∀ l : List Bool, NestedKey.depthAll (nkDs (boolsD l)) ≤ 2
  | [] => Nat.le_of_ble_eq_true rfl
  | a :: r => by
    have := depth_bools r
    show max (NestedKey.depth (.num (if a = true then 1 else 0))) (NestedKey.depthAll (nkDs (boolsD r))) ≤ 2
    have h : NestedKey.depth (.num (if a = true then 1 else 0)) ≤ 2 := by cases a <;> exact Nat.le_of_ble_eq_true rfl
    omega
theorem keyL_ok (S : Sit) : KeyD (keyL S) := by
  constructor
  · show (kOks (intsD S.cs) && (kOks (intsD S.ns) && (kOks (boolsD S.hs) && (kOks (intsD S.bx) && true)))) = true
    rw [kOks_ints, kOks_ints, kOks_bools, kOks_ints]
    rfl
  · have a := depth_ints S.cs
    have b := depth_ints S.ns
    have c := depth_bools S.hs
    have d := depth_ints S.bx
    simp only [keyL, nkD, nkDs, NestedKey.depth, NestedKey.depthAll]
    omega
theorem keyP_ok (S : Sit) : KeyD (keyP S) := by
  constructor
  · show (kOks (intsD S.cs) && (kOks (boolsD S.hs) && (kOks (intsD S.ns) && (kOks (intsD S.bx) && true)))) = true
    rw [kOks_ints, kOks_ints, kOks_bools, kOks_ints]
    rfl
  · have a := depth_ints S.cs
    have b := depth_ints S.ns
    have c := depth_bools S.hs
    have d := depth_ints S.bx
    simp only [keyP, nkD, nkDs, NestedKey.depth, NestedKey.depthAll]
    omega
theorem nums_inj {a b : List Nat} (h : a.map (fun (n : Nat) => NestedKey.num (n : Int)) = b.map fun (n : Nat) => NestedKey.num (n : Int)) : a = b := by
  induction a generalizing b with
  | nil =>
    cases b with
    | nil => rfl
    | cons _ _ => cases h
  | cons x r ih =>
    cases b with
    | nil => cases h
    | cons y s =>
      injection h with h1 h2
      injection h1 with h1
      rw [Int.ofNat.inj h1, ih h2]
theorem bls_inj {a b : List Bool} (h : a.map (fun b => NestedKey.num (if b = true then 1 else 0)) = b.map fun b => NestedKey.num (if b = true then 1 else 0)) : a = b := by
  induction a generalizing b with
  | nil =>
    cases b with
    | nil => rfl
    | cons _ _ => cases h
  | cons x r ih =>
    cases b with
    | nil => cases h
    | cons y s =>
      injection h with h1 h2
      injection h1 with h1
      rw [ih h2]
      congr 1
      cases x <;> cases y <;> first | rfl | (simp at h1)
theorem keyL_inj {S T : Sit} (h : nkD (keyL S) = nkD (keyL T)) : S = T := by
  have h : NestedKey.tup [.tup (nkDs (intsD S.cs)), .tup (nkDs (intsD S.ns)), .tup (nkDs (boolsD S.hs)), .tup (nkDs (intsD S.bx))] = NestedKey.tup [.tup (nkDs (intsD T.cs)), .tup (nkDs (intsD T.ns)), .tup (nkDs (boolsD T.hs)), .tup (nkDs (intsD T.bx))] := h
  injection h with h
  injection h with h1 h
  injection h with h2 h
  injection h with h3 h
  injection h with h4 h
  injection h1 with h1
  injection h2 with h2
  injection h3 with h3
  injection h4 with h4
  rw [nk_ints, nk_ints] at h1 h2 h4
  rw [nk_bools, nk_bools] at h3
  obtain ⟨a, b, c, d⟩ := S
  obtain ⟨a', b', c', d'⟩ := T
  have e1 : a = a' := nums_inj h1
  have e2 : b = b' := nums_inj h2
  have e3 : c = c' := bls_inj h3
  have e4 : d = d' := nums_inj h4
  rw [e1, e2, e3, e4]
theorem keyP_inj {S T : Sit} (h : nkD (keyP S) = nkD (keyP T)) : S = T := by
  have h : NestedKey.tup [.tup (nkDs (intsD S.cs)), .tup (nkDs (boolsD S.hs)), .tup (nkDs (intsD S.ns)), .tup (nkDs (intsD S.bx))] = NestedKey.tup [.tup (nkDs (intsD T.cs)), .tup (nkDs (boolsD T.hs)), .tup (nkDs (intsD T.ns)), .tup (nkDs (intsD T.bx))] := h
  injection h with h
  injection h with h1 h
  injection h with h3 h
  injection h with h2 h
  injection h with h4 h
  injection h1 with h1
  injection h2 with h2
  injection h3 with h3
  injection h4 with h4
  rw [nk_ints, nk_ints] at h1 h2 h4
  rw [nk_bools, nk_bools] at h3
  obtain ⟨a, b, c, d⟩ := S
  obtain ⟨a', b', c', d'⟩ := T
  have e1 : a = a' := nums_inj h1
  have e2 : b = b' := nums_inj h2
  have e3 : c = c' := bls_inj h3
  have e4 : d = d' := nums_inj h4
  rw [e1, e2, e3, e4]
/-- the situations so far, each with something told by f -/
def kvsOf (key : Sit → PyData) (f : Nat → FP) (P : Plm) (n : Nat) : List (PyData × FP) := (List.range n).map fun i => (key (sitAt P i), f i)
theorem kvs_snoc {key : Sit → PyData} {f : Nat → FP} {P : Plm} {n : Nat} : kvsOf key f P (n + 1) = kvsOf key f P n ++ [(key (sitAt P n), f n)] := by
  unfold kvsOf
  rw [List.range_succ, List.map_append]
  rfl
theorem kvs_len {key : Sit → PyData} {f : Nat → FP} {P : Plm} {n : Nat} : (kvsOf key f P n).length = n := by
  unfold kvsOf
  rw [List.length_map, List.length_range]
theorem look_none {key : Sit → PyData} {f : Nat → FP} {P : Plm} {n : Nat} {d : PyData} (h : ∀ i, i < n → nkD (key (sitAt P i)) ≠ nkD d) : lookD (kvsOf key f P n) d = none := by
  unfold lookD kvsOf
  rw [List.find?_eq_none.mpr]
  · rfl
  · intro x hx
    obtain ⟨i, hi, rfl⟩ := List.mem_map.mp hx
    simpa using h i (List.mem_range.mp hi)
theorem look_some {key : Sit → PyData} {f : Nat → FP} {P : Plm} {n : Nat} {d : PyData} (h : (lookD (kvsOf key f P n) d).isSome = true) : ∃ i, i < n ∧ nkD (key (sitAt P i)) = nkD d ∧ lookD (kvsOf key f P n) d = some (f i) ∧ ∀ j, j < i → nkD (key (sitAt P j)) ≠ nkD d := by
  induction n with
  | zero => cases h
  | succ n ih =>
    by_cases c : (lookD (kvsOf key f P n) d).isSome = true
    · obtain ⟨i, h1, h2, h3, h4⟩ := ih c
      refine ⟨i, by omega, h2, ?_, h4⟩
      rw [kvs_snoc]
      unfold lookD at h3 ⊢
      rw [List.find?_append]
      cases q : (kvsOf key f P n).find? fun e => decide (nkD e.1 = nkD d) with
      | none => rw [q] at h3; cases h3
      | some y => rw [q] at h3; exact h3
    · have c0 : lookD (kvsOf key f P n) d = none := by simpa using c
      have nn : ∀ j, j < n → nkD (key (sitAt P j)) ≠ nkD d := fun j hj e => by
        unfold lookD at c0
        have := List.find?_eq_none.mp (Option.map_eq_none_iff.mp c0) (key (sitAt P j), f j) (List.mem_map.mpr ⟨j, List.mem_range.mpr hj, rfl⟩)
        simp [e] at this
      rw [kvs_snoc] at h ⊢
      unfold lookD at h c0 ⊢
      rw [List.find?_append, Option.map_eq_none_iff.mp c0, Option.none_or] at h ⊢
      by_cases e : nkD (key (sitAt P n)) = nkD d
      · refine ⟨n, by omega, e, ?_, nn⟩
        simp [List.find?, e]
      · simp [List.find?, e] at h
def dayD (P : Plm) (i : Nat) : PyData := .tuple [wordsD (wordsAt P i), sitD (sitAt P (i + 1))]
def daysD (P : Plm) (n : Nat) : List PyData := (List.range n).map (dayD P)
theorem days_snoc {P : Plm} {n : Nat} : daysD P (n + 1) = daysD P n ++ [dayD P n] := by
  unfold daysD
  rw [List.range_succ, List.map_append]
  rfl
theorem days_len {P : Plm} {n : Nat} : (daysD P n).length = n := by
  unfold daysD
  rw [List.length_map, List.length_range]
theorem atI_last {α : Type} {xs : List α} {x : α} : atI (xs ++ [x]) (-1) = some x := by
  unfold atI ixN
  rw [if_neg (by omega), List.length_append, List.length_singleton, if_pos (by omega)]
  show (xs ++ [x])[((-1 : Int) + ((xs.length + 1 : Nat) : Int)).toNat]? = _
  rw [show ((-1 : Int) + ((xs.length + 1 : Nat) : Int)).toNat = xs.length by omega]
  simp
end SB
namespace SB
open PySem PySem.Spec PyProof.Rows L2
open Evl
theorem eg_un {m : Fm} {K : PySem.W.Frag} {Γ : List En} {te : TE} {i : Int} (h : EG m Γ te (Dd K (.int i))) : EG m Γ (tUn (rU fun i => .int (-i)) te) (Dd K (.int (-i))) := fun F H σ E Q q =>
  h F H σ E _ fun v F1 H1 x1 E1 p1 => ⟨i, dd_int p1, q _ F1 H1 x1 E1 (Dq.int _)⟩
end SB

set_option maxHeartbeats 4000000
namespace SB
open PySem PySem.Spec PyProof.Rows L2
open TL (tl)
open Evl
variable {P : Program} {w : World} {K : PySem.W.Frag} {mg : Str → Option Value} {base : Heap}


def PhEmpty (K : PySem.W.Frag) (as : List En) (ψ : FP) : Prop := ∃ P : Plm, as = [.fx (Dd K (planD P))] ∧ ψ = Dd K (sitD (sit0 P))
def PhAct (K : PySem.W.Frag) (as : List En) (ψ : FP) : Prop := ∃ (P : Plm) (S : Sit) (r : Nat), PlanOk P ∧ SitOk P S ∧ r < 2 ∧ as = [.fx (Dd K (planD P)), .fx (Dd K (sitD S)), .fx (Dd K (iD r))] ∧ ψ = Dd K (.tuple [.str (actM P S r).1, sitD (actM P S r).2])
def PhTick (K : PySem.W.Frag) (as : List En) (ψ : FP) : Prop := ∃ (P : Plm) (S : Sit), PlanOk P ∧ SitOk P S ∧ as = [.fx (Dd K (planD P)), .fx (Dd K (sitD S))] ∧ ψ = Dd K (.tuple [wordsD (tickM P S).1, sitD (tickM P S).2])
theorem nums_at {l : List Nat} {i : Nat} {K : PySem.W.Frag} (h : i < l.length) : atI ((intsD l).map (Dd K)) (i : Int) = some (Dd K (iD (atN l i))) := by
  unfold intsD
  rw [List.map_map]
  exact at_nat' (by rw [List.getElem?_map, atN_get h]; rfl)

theorem ok__law_empty (T : Txt K mg) : FnR P w K mg base (L2.CX P w) 1 (He.ga K "_law_empty") (spG (PhEmpty K)) := by
  obtain ⟨fd, F⟩ := T.F__law_empty
  have B : Binds K fd P__law_empty [] := F.bindsN fun _ _ _ _ _ _ us hl => match us, hl with | [_], _ => rfl
  refine fnR_of F B (F.ok sc__law_empty (fun vs H Q E h => spG_len h fun as ψ hΦ => ?_) (fun cdv A outer s H vs Q E hr h => ?_))
  · obtain ⟨P, rfl, rfl⟩ := hΦ
    rfl
  · have hu := hu_of hr
    have hu64 := hr.units
    refine ⟨_, (pss_one (ps_ret (pe_lst (pa_cons (pe_callTy call_list_of (by rfl) T.b_list (by decide +kernel) (pa_cons (pe_ix ix_tup (pv 0) pe_int (fun _ _ => rfl)) pa_nil)) (pa_cons (pe_lst (pa_cons pe_int (pa_cons pe_int pa_nil))) (pa_cons (pe_lst (pa_cons pe_bl (pa_cons pe_bl pa_nil))) (pa_cons (pe_callTy call_list_of (by rfl) T.b_list (by decide +kernel) (pa_cons (pe_ix ix_tup (pv 0) pe_int (fun _ _ => rfl)) pa_nil)) pa_nil))))))), ?_⟩
    refine spG_body h fun m as ψ hΦ => ?_
    obtain ⟨P, rfl, rfl⟩ := hΦ
    exact sg_ret (eg_lstD (ds := [.list [iD P.a, iD P.b], .list [iD 0, iD 0], .list [.bool false, .bool false], .list (intsD P.bx)])
      (ag_cons (eg_listT (eg_ixT (eg_var rfl) eg_int rfl)) (ag_cons (eg_lstD (ds := [iD 0, iD 0]) (ag_cons eg_int (ag_cons eg_int ag_nil)) (by decide)) (ag_cons (eg_lstD (ds := [.bool false, .bool false]) (ag_cons eg_bl (ag_cons eg_bl ag_nil)) (by decide)) (ag_cons (eg_listT (eg_ixT (eg_var rfl) eg_int rfl)) ag_nil)))) (by show 4 ≤ 100000; decide))

theorem ok__law_act (T : Txt K mg) : FnR P w K mg base (L2.CX P w) 1 (He.ga K "_law_act") (spG (PhAct K)) := by
  obtain ⟨fd, F⟩ := T.F__law_act
  have B : Binds K fd P__law_act [] := F.bindsN fun _ _ _ _ _ _ us hl => match us, hl with | [_, _, _], _ => rfl
  refine fnR_of F B (F.ok sc__law_act (fun vs H Q E h => spG_len h fun as ψ hΦ => ?_) (fun cdv A outer s H vs Q E hr h => ?_))
  · obtain ⟨P, S, r, hP, hS, hr, rfl, rfl⟩ := hΦ
    rfl
  · have hu := hu_of hr
    have hu64 := hr.units
    refine ⟨_, (pss_cons (ps_asg (pe_lc (te := (tCB (rListS K) (tCons (tVar 12) tNil))) (own := [("_law_part", 12)]) rfl sc__law_act.nd (pi_list (pv 1)) (blkOk_by (own := [("_law_part", 12)]) (N := N__law_act) (sc := defScope s__law_act) (by decide +kernel)) (fun _ _ _ _ _ => by exact pg_name (i := 12) sc__law_act.nd rfl (by first | exact Or.inl rfl | exact Or.inr rfl)) (fun _ _ _ _ _ => by exact pts_nil) (fun _ _ _ _ _ => by exact (pe_callTy call_list_of (by rfl) T.b_list (by decide +kernel) (pa_cons (pv 12) pa_nil)))) (pg_unl rfl (pgs_cons (pg_name (i := 3) sc__law_act.nd rfl (by first | exact Or.inl rfl | exact Or.inr rfl)) (pgs_cons (pg_name (i := 4) sc__law_act.nd rfl (by first | exact Or.inl rfl | exact Or.inr rfl)) (pgs_cons (pg_name (i := 5) sc__law_act.nd rfl (by first | exact Or.inl rfl | exact Or.inr rfl)) (pgs_cons (pg_name (i := 6) sc__law_act.nd rfl (by first | exact Or.inl rfl | exact Or.inr rfl)) pgs_nil))))))
        (pss_cons (ps_asg (pe_ix ix_list (pe_ix ix_list (pe_ix ix_tup (pv 0) pe_int (fun _ _ => rfl)) (pv 2) (fun _ _ => rfl)) (pe_ix ix_list (pv 4) (pv 2) (fun _ _ => rfl)) (fun _ _ => rfl)) (pg_tup rfl (pgs_cons (pg_name (i := 7) sc__law_act.nd rfl (by first | exact Or.inl rfl | exact Or.inr rfl)) (pgs_cons (pg_name (i := 8) sc__law_act.nd rfl (by first | exact Or.inl rfl | exact Or.inr rfl)) pgs_nil))))
        (pss_cons (ps_set (i := 9) sc__law_act.nd rfl (by first | exact Or.inl rfl | exact Or.inr rfl) (pe_ix ix_list (pv 3) (pv 2) (fun _ _ => rfl)))
        (pss_cons (ps_if (pt_cmpR op_in_seq (pv 7) (pe_lst (pa_cons pe_str (pa_cons pe_str pa_nil))) (by rfl)) (pss_cons (ps_set (i := 10) sc__law_act.nd rfl (by first | exact Or.inl rfl | exact Or.inr rfl) (pe_op op_add (pv 9) (pe_ifExp (pt_cmpR op_eq (pv 7) pe_str (nomark _)) pe_int (pe_op op_sub pe_int pe_int))))
        (pss_cons (ps_if (pw_or (pt_not (pt_chain op_le op_lt pe_int (pv 10) (pe_callB call_len_seq (by rfl) T.b_len (by decide +kernel) (pa_cons (pv 6) pa_nil)))) (pw_or1 (pt_cmpR op_eq (pv 10) (pe_ix ix_list (pv 3) (pe_op op_sub pe_int (pv 2)) (fun _ _ => rfl)) (nomark _)))).pt (pss_one (ps_ret (pe_tup (pa_cons pe_str (pa_cons (pv 1) pa_nil))))) pss_nil)
        (pss_one (ps_asg (pv 10) (pg_sub (pv 3) (pv 2) set_list))))) pss_nil)
        (pss_cons (ps_if (pt_cmpR op_eq (pv 7) pe_str (nomark _)) (pss_cons (ps_if (pw_or (pt_val (pe_ix ix_list (pv 5) (pv 2) (fun _ _ => rfl))) (pw_or1 (pt_cmpR op_eq (pe_ix ix_list (pv 6) (pv 9) (fun _ _ => rfl)) pe_int (nomark _)))).pt (pss_one (ps_ret (pe_tup (pa_cons pe_str (pa_cons (pv 1) pa_nil))))) pss_nil)
        (pss_one (ps_asg (pe_tup (pa_cons pe_bl (pa_cons (pe_op op_sub (pe_ix ix_list (pv 6) (pv 9) (fun _ _ => rfl)) pe_int) pa_nil))) (pg_tup rfl (pgs_cons (pg_sub (pv 5) (pv 2) set_list) (pgs_cons (pg_sub (pv 6) (pv 9) set_list) pgs_nil)))))) pss_nil)
        (pss_cons (ps_if (pt_cmpR op_eq (pv 7) pe_str (nomark _)) (pss_cons (ps_if (pw_or (pt_not (pt_val (pe_ix ix_list (pv 5) (pv 2) (fun _ _ => rfl)))) (pw_or1 (pt_cmpR op_gt (pe_ix ix_list (pv 6) (pv 9) (fun _ _ => rfl)) pe_int (nomark _)))).pt (pss_one (ps_ret (pe_tup (pa_cons pe_str (pa_cons (pv 1) pa_nil))))) pss_nil)
        (pss_one (ps_asg (pe_tup (pa_cons pe_bl (pa_cons (pe_op op_add (pe_ix ix_list (pv 6) (pv 9) (fun _ _ => rfl)) pe_int) pa_nil))) (pg_tup rfl (pgs_cons (pg_sub (pv 5) (pv 2) set_list) (pgs_cons (pg_sub (pv 6) (pv 9) set_list) pgs_nil)))))) pss_nil)
        (pss_cons (ps_set (i := 11) sc__law_act.nd rfl (by first | exact Or.inl rfl | exact Or.inr rfl) (pe_or (pe_cmpR op_eq (pv 7) pe_str (nomark _)) (pe_or (pe_and (pe_cmpR op_eq (pv 7) pe_str (nomark _)) (pe_one (pe_cmpR op_eq (pe_ix ix_list (pv 6) (pv 9) (fun _ _ => rfl)) pe_int (nomark _)))) (pe_one (pe_and (pe_cmpR op_eq (pv 7) pe_str (nomark _)) (pe_one (pe_ix ix_list (pv 5) (pv 2) (fun _ _ => rfl))))))))
        (pss_cons (ps_asg (pe_ifExp (pt_val (pv 11)) (pv 8) (pe_op op_modN (pe_op op_add (pe_ix ix_list (pv 4) (pv 2) (fun _ _ => rfl)) pe_int) (pe_callB call_len_seq (by rfl) T.b_len (by decide +kernel) (pa_cons (pe_ix ix_list (pe_ix ix_tup (pv 0) pe_int (fun _ _ => rfl)) (pv 2) (fun _ _ => rfl)) pa_nil)))) (pg_sub (pv 4) (pv 2) set_list))
        (pss_one (ps_ret (pe_tup (pa_cons (pv 7) (pa_cons (pe_lst (pa_cons (pv 3) (pa_cons (pv 4) (pa_cons (pv 5) (pa_cons (pv 6) pa_nil))))) pa_nil))))))))))))), ?_⟩
    refine spG_body h fun m as ψ hΦ => ?_
    obtain ⟨P, S, r, hP, hS, hr, rfl, rfl⟩ := hΦ
    have hr0 : r < S.cs.length := by rw [hS.c2]; exact hr
    have hrn : r < S.ns.length := by rw [hS.n2]; exact hr
    have hrh : r < S.hs.length := by rw [hS.h2]; exact hr
    have hc := hS.cl r hr
    have hc1 := hS.cl (1 - r) (by omega)
    have hb3 := hS.b3 (atN S.cs r)
    have hbl : S.bx.length ≤ 12 := by rw [hS.bl]; exact hP.hi
    have hsl := hP.ls r
    have hw := hsl.cmd _ (step_mem hS hr)
    refine q_copyG (s := 1) (j := 12) (is := [3, 4, 5, 6]) (dss := [intsD S.cs, intsD S.ns, boolsD S.hs, intsD S.bx]) rfl (Nat.le_of_ble_eq_true rfl) rfl rfl (Nat.le_of_ble_eq_true rfl) ?_
    -- the step
    refine q_asgT (φ := TupF K [Dd K (.str (stepAt P S r).1), Dd K (goalD (stepAt P S r).2)]) (eg_le (φ := Dd K (stepD (stepAt P S r))) (eg_ixL (ds := (lns P r).map stepD) (eg_ixL (ds := [stepsD P.l0, stepsD P.l1]) (eg_ixT (eg_var rfl) eg_int rfl) (eg_var rfl) ?_) (eg_ixO (k := 4) rfl (eg_var rfl) (nums_at hrn)) (at_nat' ?_)) dp_tup) (to_tup (tos_cons to_name (tos_cons to_name tos_nil)) rfl) ?_
    · match r, hr with
      | 0, _ => exact at_nat' rfl
      | 1, _ => exact at_nat' rfl
    · rw [List.getElem?_map, step_get hS hr]
      rfl
    generalize hs : stepAt P S r = s at hw ⊢
    obtain ⟨w, g⟩ := s
    refine q_asgG (eg_ixO (k := 3) rfl (eg_var rfl) (nums_at hr0)) ?_
    let G (cs : List Nat) (hs : List Bool) (bx : List Nat) (x : En) : List En := [.fx (Dd K (planD P)), .fx (Dd K (sitD S)), .fx (Dd K (iD r)), .oo (OwL ((intsD cs).map (Dd K))), .oo (OwL ((intsD S.ns).map (Dd K))), .oo (OwL ((boolsD hs).map (Dd K))), .oo (OwL ((intsD bx).map (Dd K))), .fx (Dd K (.str w)), .fx (Dd K (goalD g)), .fx (Dd K (iD (atN S.cs r))), x, .un, .un]
    refine sg_eq (G S.cs S.hs S.bx .un) ?_
    have blk : ∀ {x cs hs bx}, stuckM S r w = true → SG m (G cs hs bx x) (tRet (tTup (tCons (tC (V.str "blocked")) (tCons (tVar 1) tNil)))) ⟨fun _ => False, Dd K (.tuple [.str (actM P S r).1, sitD (actM P S r).2]), fun _ => False, fun _ => False⟩ := fun {x cs hs' bx} h => by
      have e : actM P S r = (("blocked" : Str), S) := by
        unfold actM
        rw [hs, if_pos h]
      rw [e]
      exact sg_ret (eg_tupD (ds := [.str "blocked", sitD S]) (ag_cons eg_str (ag_cons (eg_var rfl) ag_nil)) (Nat.le_of_ble_eq_true rfl))
    have ret : ∀ {x cs hs bx} {po : Po}, stuckM S r w = true → po.rt = Dd K (.tuple [.str (actM P S r).1, sitD (actM P S r).2]) → SG m (G cs hs bx x) (tRet (tTup (tCons (tC (V.str "blocked")) (tCons (tVar 1) tNil)))) po := fun {x cs hs' bx po} h e F H σ E D q => blk h F H σ E D ⟨fun _ _ _ _ _ _ n => n.elim, by rw [← e]; exact q.rt, fun _ _ _ _ _ _ n => n.elim, fun _ _ _ _ _ _ n => n.elim⟩
    -- left, right
    refine sg_seq (N := fun Γ' => ∃ x, (w = "left" ∨ w = "right" → stuckM S r w = false) ∧ Γ' = G (if w = "left" ∨ w = "right" then (movedM S r w).cs else S.cs) S.hs S.bx x) ?_ ?_
    · refine sg_if (bg_inS (ws := ["left", "right"]) (eg_var rfl) (eg_lstD (ds := [.str "left", .str "right"]) (ag_cons eg_str (ag_cons eg_str ag_nil)) (Nat.le_of_ble_eq_true rfl))) (fun hb => ?_) (fun hb => ?_)
      · have hlr : w = "left" ∨ w = "right" := by simpa using hb.symm
        obtain ⟨d, hd⟩ : ∃ d : Int, d = if w = "right" then 1 else -1 := ⟨_, rfl⟩
        refine q_asgG (φ := Dd K (.int ((atN S.cs r : Int) + d))) (eg_i0 (eg_var rfl) (eg_if (ψ := Dd K (.int d)) (bg_eqS (eg_var rfl) eg_str) (fun hb => ?_) (fun hb => ?_))) ?_
        · have : w = "right" := by simpa using hb.symm
          rw [hd, if_pos this]
          exact eg_int
        · have : ¬ w = "right" := by simpa using hb.symm
          rw [hd, if_neg this]
          exact eg_i0 eg_int eg_int
        have hst : stuckM S r w = (!(decide ((0 : Int) ≤ (atN S.cs r : Int) + d) && decide ((atN S.cs r : Int) + d < (S.bx.length : Int))) || decide ((atN S.cs r : Int) + d = (atN S.cs (1 - r) : Int))) := by
          have hx := hS.cl r hr
          rcases hlr with h | h
          · subst h
            unfold stuckM
            rw [if_pos rfl, hd, if_neg (by decide +kernel)]
            rw [← Bool.decide_or, ← Bool.decide_and, ← decide_not, ← Bool.decide_or]
            apply decide_eq_decide.mpr
            omega
          · subst h
            unfold stuckM
            rw [if_neg (by decide +kernel), if_pos rfl, hd, if_pos rfl]
            rw [← Bool.decide_or, ← Bool.decide_and, ← decide_not, ← Bool.decide_or]
            apply decide_eq_decide.mpr
            omega
        have e1r : ((1 : Int) - (r : Int)) = ((1 - r : Nat) : Int) := by omega
        refine q_whenG (bg_is (bg_orV (bg_not (bg_test (eg_chainI eg_int (eg_var rfl) (c := (S.bx.length : Int)) (by have h := eg_lenO (K := K) (k := 6) (φs := (intsD S.bx).map (Dd K)) (m := m) (Γ := (G S.cs S.hs S.bx .un).set 10 (.fx (Dd K (.int ((atN S.cs r : Int) + d))))) rfl; rw [ints_len] at h; exact h)))) fun _ => bg_eqI (eg_var rfl) (eg_ixO (k := 3) (i := ((1 - r : Nat) : Int)) rfl (eg_is (eg_i0 eg_int (eg_var rfl)) (congrArg PyData.int e1r)) (nums_at' (by rw [hS.c2]; omega)))) hst.symm) (fun h => ?_) (fun h => ?_)
        · exact sg_seq (N := fun _ => False) (ret (x := .fx (Dd K (.int ((atN S.cs r : Int) + d)))) h.symm rfl) fun _ h => h.elim
        · obtain ⟨c', e1, e2, _, _⟩ := moved_lr (S := S) (r := r) hlr h.symm
          refine s_asgT (φ := Dd K (iD c')) (eg_is (eg_var rfl) (congrArg PyData.int (by rw [e2, hd]))) (to_setO rfl (eg_var rfl) (by rw [ints_len]; exact hr0)) ⟨.fx (Dd K (.int ((atN S.cs r : Int) + d))), fun _ => h.symm, ?_⟩
          rw [if_pos hlr, e1]
          show _ = G (S.cs.set r c') S.hs S.bx (.fx (Dd K (.int ((atN S.cs r : Int) + d))))
          show [_, _, _, En.oo (OwL (((intsD S.cs).map (Dd K)).set r (Dd K (iD c')))), _, _, _, _, _, _, _, _, _] = _
          rw [ints_set]
      · have hlr : ¬ (w = "left" ∨ w = "right") := by simpa using hb.symm
        exact sg_next ⟨.un, fun h => absurd h hlr, by rw [if_neg hlr]⟩
    rintro Γ' ⟨x, hst1, rfl⟩
    -- pick
    let cs1 := if w = "left" ∨ w = "right" then (movedM S r w).cs else S.cs
    refine sg_seq (N := fun Γ' => ∃ x, (w = "left" ∨ w = "right" ∨ w = "pick" → stuckM S r w = false) ∧ Γ' = G cs1 (if w = "pick" then (movedM S r w).hs else S.hs) (if w = "pick" then (movedM S r w).bx else S.bx) x) ?_ ?_
    · refine sg_if (bg_eqS (eg_var rfl) eg_str) (fun hb => ?_) (fun hb => ?_)
      · have hw1 : w = "pick" := by simpa using hb.symm
        subst hw1
        refine q_whenG (P := (· = stuckM S r "pick")) (bg_is (bg_orV (bg_B (eg_ixO (k := 5) rfl (eg_var rfl) (bools_at hrh))) fun _ => bg_eqI (eg_ixO (k := 6) rfl (eg_var rfl) (nums_at' hc)) eg_int) ?_) (fun h => ?_) (fun h => ?_)
        · rw [stuck_pick]
          congr 1
          apply decide_eq_decide.mpr
          omega
        · exact sg_seq (N := fun _ => False) (ret (x := x) (Eq.symm h) rfl) fun _ h => h.elim
        · have h' := h.symm
          rw [stuck_pick] at h'
          simp only [Bool.or_eq_false_iff, decide_eq_false_iff_not] at h'
          refine s_asgT (φ := TupF K [Dd K (.bool true), Dd K (iD (atN S.bx (atN S.cs r) - 1))]) (eg_tup (φs := [Dd K (.bool true), Dd K (iD (atN S.bx (atN S.cs r) - 1))]) (ag_cons eg_bl (ag_cons (eg_is (eg_i0 (eg_ixO (k := 6) rfl (eg_var rfl) (nums_at' hc)) eg_int) (congrArg PyData.int ?_)) ag_nil)) (Nat.le_of_ble_eq_true rfl)) (to_tup (tos_cons (to_setO rfl (eg_var rfl) (by rw [bools_len]; exact hrh)) (tos_cons (to_setO rfl (eg_var rfl) (by rw [ints_len]; exact hc)) tos_nil)) rfl) ⟨x, fun _ => h.symm, ?_⟩
          · omega
          have e1 : cs1 = S.cs := if_neg (by decide +kernel)
          have e2 : (if ("pick" : Str) = "left" ∨ ("pick" : Str) = "right" then (movedM S r "pick").cs else S.cs) = S.cs := if_neg (by decide +kernel)
          rw [if_pos rfl, if_pos rfl, e1, e2, moved_pick]
          show [_, _, _, _, _, En.oo (OwL (((boolsD S.hs).map (Dd K)).set r (Dd K (.bool true)))), En.oo (OwL (((intsD S.bx).map (Dd K)).set (atN S.cs r) (Dd K (iD (atN S.bx (atN S.cs r) - 1))))), _, _, _, _, _, _] = _
          rw [ints_set, bools_set]
      · have hw1 : ¬ w = "pick" := by simpa using hb.symm
        refine sg_next ⟨x, fun h => hst1 ?_, by rw [if_neg hw1, if_neg hw1]⟩
        rcases h with h | h | h
        · exact .inl h
        · exact .inr h
        · exact absurd h hw1
    rintro Γ' ⟨x, hst2, rfl⟩
    -- put
    refine sg_seq (N := fun Γ' => ∃ x, stuckM S r w = false ∧ Γ' = G (movedM S r w).cs (movedM S r w).hs (movedM S r w).bx x) ?_ ?_
    · refine sg_if (bg_eqS (eg_var rfl) eg_str) (fun hb => ?_) (fun hb => ?_)
      · have hw1 : w = "put" := by simpa using hb.symm
        subst hw1
        have n1 : ¬ (("put" : Str) = "pick") := by decide +kernel
        have n2 : ¬ (("put" : Str) = "left" ∨ ("put" : Str) = "right") := by decide +kernel
        rw [if_neg n1, if_neg n1]
        refine q_whenG (P := (· = stuckM S r "put")) (bg_is (bg_orV (bg_not (bg_B (eg_ixO (k := 5) rfl (eg_var rfl) (bools_at hrh)))) fun _ => bg_lt (eg_ixO (k := 6) rfl (eg_var rfl) (nums_at' hc)) eg_int rfl) ?_) (fun h => ?_) (fun h => ?_)
        · rw [stuck_put]
          congr 1
          apply decide_eq_decide.mpr
          omega
        · exact sg_seq (N := fun _ => False) (ret (x := x) (Eq.symm h) rfl) fun _ h => h.elim
        · refine s_asgT (φ := TupF K [Dd K (.bool false), Dd K (iD (atN S.bx (atN S.cs r) + 1))]) (eg_tup (φs := [Dd K (.bool false), Dd K (iD (atN S.bx (atN S.cs r) + 1))]) (ag_cons eg_bl (ag_cons (eg_i0 (eg_ixO (k := 6) rfl (eg_var rfl) (nums_at' hc)) eg_int) ag_nil)) (Nat.le_of_ble_eq_true rfl)) (to_tup (tos_cons (to_setO rfl (eg_var rfl) (by rw [bools_len]; exact hrh)) (tos_cons (to_setO rfl (eg_var rfl) (by rw [ints_len]; exact hc)) tos_nil)) rfl) ⟨x, h.symm, ?_⟩
          have e1 : cs1 = S.cs := if_neg n2
          rw [moved_put, e1]
          show [_, _, _, _, _, En.oo (OwL (((boolsD S.hs).map (Dd K)).set r (Dd K (.bool false)))), En.oo (OwL (((intsD S.bx).map (Dd K)).set (atN S.cs r) (Dd K (iD (atN S.bx (atN S.cs r) + 1))))), _, _, _, _, _, _] = _
          rw [ints_set, bools_set]
      · have hw1 : ¬ w = "put" := by simpa using hb.symm
        by_cases hl : w = "left" ∨ w = "right"
        · obtain ⟨c', e1, e2, e3, e4⟩ := moved_lr (S := S) (r := r) hl (hst1 hl)
          have n1 : ¬ w = "pick" := by rcases hl with h | h <;> rw [h] <;> decide +kernel
          refine sg_next ⟨x, hst1 hl, ?_⟩
          rw [if_neg n1, if_neg n1, e3, e4]
          show G cs1 _ _ _ = _
          rw [show cs1 = (movedM S r w).cs from if_pos hl]
        · by_cases hp : w = "pick"
          · subst hp
            refine sg_next ⟨x, hst2 (.inr (.inr rfl)), ?_⟩
            rw [if_pos rfl, if_pos rfl]
            show G cs1 _ _ _ = _
            rw [show cs1 = S.cs from if_neg hl, moved_pick]
          · refine sg_next ⟨x, stuck_other hl hp hw1, ?_⟩
            rw [if_neg hp, if_neg hp, moved_other hl hp hw1]
            show G cs1 _ _ _ = _
            rw [show cs1 = S.cs from if_neg hl]
    rintro Γ' ⟨x, hst, rfl⟩
    obtain ⟨hM, hMn⟩ := moved_ok hS hr hst
    have hjump : ∀ (a : Int), (a = (atN (movedM S r w).bx (atN S.cs r) : Int)) → (decide (w = "goto") || (decide (w = "empty") && decide (a = 0) || decide (w = "held") && atB (movedM S r w).hs r)) = jumpM S r w := fun a ha => by
      subst ha
      unfold jumpM
      by_cases h1 : w = "empty"
      · subst h1
        rw [moved_other (by decide +kernel) (by decide +kernel) (by decide +kernel)]
        have e0 : decide ((atN S.bx (atN S.cs r) : Int) = 0) = decide (atN S.bx (atN S.cs r) = 0) := by apply decide_eq_decide.mpr; omega
        rw [e0, Bool.or_assoc]
      · by_cases h2 : w = "held"
        · subst h2
          rw [moved_other (by decide +kernel) (by decide +kernel) (by decide +kernel)]
          rw [decide_eq_false h1, Bool.false_and, Bool.false_and, Bool.or_false, Bool.false_or]
        · rw [decide_eq_false h1, decide_eq_false h2, Bool.false_and, Bool.false_and, Bool.false_and, Bool.false_and, Bool.or_false, Bool.or_false, Bool.or_false]
    refine q_asgG (φ := Dd K (.bool (jumpM S r w))) (eg_is (eg_orV (eg_eqS (eg_var rfl) eg_str) fun _ => eg_orV (eg_andV (eg_eqS (eg_var rfl) eg_str) fun _ => eg_eqI (eg_ixO (k := 6) rfl (eg_var rfl) (nums_at' (by rw [hM.bl, ← hS.bl]; exact hc))) eg_int) fun _ => eg_andV (eg_eqS (eg_var rfl) eg_str) fun _ => eg_ixO (k := 5) rfl (eg_var rfl) (bools_at (by rw [hM.h2]; exact hr))) (congrArg PyData.bool (hjump _ rfl))) ?_
    have hway := hsl.way (w, g) (by rw [← hs]; exact step_mem hS hr)
    have hlen := hsl.lo
    refine q_asgT (φ := Dd K (iD (nextM P S r (w, g)))) (eg_if (bg_B (eg_var rfl)) (fun hj => ?_) (fun hj => ?_)) (to_setO (j := r) rfl (eg_var rfl) (by rw [ints_len]; exact hrn)) ?_
    · have hj : jumpM S r w = true := hj.symm
      have hm : w ∈ jumps := by
        unfold jumpM at hj
        simp only [Bool.or_eq_true, Bool.and_eq_true, decide_eq_true_eq] at hj
        rcases hj with (h | ⟨h, _⟩) | ⟨h, _⟩ <;> rw [h] <;> decide +kernel
      have hg : g.isSome = true := by
        have := hway
        rw [decide_eq_true hm] at this
        exact this
      obtain ⟨t, rfl⟩ := Option.isSome_iff_exists.mp hg
      unfold nextM
      rw [if_pos hj]
      exact eg_var rfl
    · have hj : jumpM S r w = false := hj.symm
      unfold nextM
      rw [if_neg (by rw [hj]; decide)]
      refine eg_is (eg_i (eg_i0 (eg_ixO (k := 4) rfl (eg_var rfl) (nums_at' hrn)) eg_int) (eg_lenL (ds := (lns P r).map stepD) (eg_ixL (ds := [stepsD P.l0, stepsD P.l1]) (eg_ixT (eg_var rfl) eg_int rfl) (eg_var rfl) ?_)) ?_) ?_
      · match r, hr with
        | 0, _ => exact at_nat' rfl
        | 1, _ => exact at_nat' rfl
      · show (((lns P r).map stepD).length : Int) ≠ 0
        rw [List.length_map]
        omega
      · show PyData.int (((atN S.ns r : Int) + 1).fmod (((lns P r).map stepD).length : Int)) = iD _
        rw [List.length_map, Int.fmod_eq_emod_of_nonneg _ (by omega)]
        unfold iD
        congr 1
    have fin : actM P S r = (w, { movedM S r w with ns := S.ns.set r (nextM P S r (w, g)) }) := by
      unfold actM
      rw [hs, if_neg (by rw [hst]; decide)]
    rw [fin]
    rw [show (((intsD S.ns).map (Dd K)).set r (Dd K (iD (nextM P S r (w, g))))) = (intsD (S.ns.set r (nextM P S r (w, g)))).map (Dd K) from ints_set]
    refine sg_frzD (i := 3) (ds := intsD (movedM S r w).cs) rfl (sg_frzD (i := 4) (ds := intsD (S.ns.set r (nextM P S r (w, g)))) rfl (sg_frzD (i := 5) (ds := boolsD (movedM S r w).hs) rfl (sg_frzD (i := 6) (ds := intsD (movedM S r w).bx) rfl ?_)))
    exact sg_ret (eg_tupD (ds := [.str w, sitD { movedM S r w with ns := S.ns.set r (nextM P S r (w, g)) }]) (ag_cons (eg_var rfl) (ag_cons (eg_lstD (ds := [.list (intsD (movedM S r w).cs), .list (intsD (S.ns.set r (nextM P S r (w, g)))), .list (boolsD (movedM S r w).hs), .list (intsD (movedM S r w).bx)]) (ag_cons (eg_var rfl) (ag_cons (eg_var rfl) (ag_cons (eg_var rfl) (ag_cons (eg_var rfl) ag_nil)))) (Nat.le_of_ble_eq_true rfl)) ag_nil)) (Nat.le_of_ble_eq_true rfl))

theorem ok__law_tick (T : Txt K mg) : FnR P w K mg base (L2.CX P w) 2 (He.ga K "_law_tick") (spG (PhTick K)) := by
  have G__law_act := ok__law_act (P := P) (w := w) (base := base) T
  have KP__law_act : PySem.W.keepIn K (.ref (He.ga K "_law_act")) = true := by
    obtain ⟨_, F⟩ := T.F__law_act
    exact F.kp
  obtain ⟨fd, F⟩ := T.F__law_tick
  have B : Binds K fd P__law_tick [] := F.bindsN fun _ _ _ _ _ _ us hl => match us, hl with | [_, _], _ => rfl
  refine fnR_of F B (F.ok sc__law_tick (fun vs H Q E h => spG_len h fun as ψ hΦ => ?_) (fun cdv A outer s H vs Q E hr h => ?_))
  · obtain ⟨P, S, hP, hS, rfl, rfl⟩ := hΦ
    rfl
  · have hu := hu_of hr
    have hu64 := hr.units
    refine ⟨_, (pss_cons (ps_asg (pe_callR G__law_act (hr.mono (by decide)) T.g__law_act KP__law_act px (pa_cons (pv 0) (pa_cons (pv 1) (pa_cons pe_int pa_nil)))) (pg_tup rfl (pgs_cons (pg_name (i := 2) sc__law_tick.nd rfl (by first | exact Or.inl rfl | exact Or.inr rfl)) (pgs_cons (pg_name (i := 1) sc__law_tick.nd rfl (by first | exact Or.inl rfl | exact Or.inr rfl)) pgs_nil))))
        (pss_cons (ps_asg (pe_callR G__law_act (hr.mono (by decide)) T.g__law_act KP__law_act px (pa_cons (pv 0) (pa_cons (pv 1) (pa_cons pe_int pa_nil)))) (pg_tup rfl (pgs_cons (pg_name (i := 3) sc__law_tick.nd rfl (by first | exact Or.inl rfl | exact Or.inr rfl)) (pgs_cons (pg_name (i := 1) sc__law_tick.nd rfl (by first | exact Or.inl rfl | exact Or.inr rfl)) pgs_nil))))
        (pss_one (ps_ret (pe_tup (pa_cons (pe_tup (pa_cons (pv 2) (pa_cons (pv 3) pa_nil))) (pa_cons (pv 1) pa_nil))))))), ?_⟩
    refine spG_body h fun m as ψ hΦ => ?_
    obtain ⟨P, S, hP, hS, rfl, rfl⟩ := hΦ
    have call : ∀ {Γ : List En} {ta tb tc : TE} {S' : Sit} {r : Nat}, SitOk P S' → r < 2 → EG m Γ ta (Dd K (planD P)) → EG m Γ tb (Dd K (sitD S')) → EG m Γ tc (Dd K (iD r)) → EG m Γ (tCallR (spG (PhAct K)) E (tCons ta (tCons tb (tCons tc tNil)))) (TupF K [Dd K (.str (actM P S' r).1), Dd K (sitD (actM P S' r).2)]) :=
      fun {Γ ta tb tc S' r} hS' hr h1 h2 h3 => eg_le (φ := Dd K (.tuple [.str (actM P S' r).1, sitD (actM P S' r).2])) (eg_call (ag_cons h1 (ag_cons h2 (ag_cons h3 ag_nil))) ⟨P, S', r, hP, hS', hr, rfl, rfl⟩) dp_tup
    refine q_asgT (call (r := 0) hS (Nat.le_of_ble_eq_true rfl) (eg_var rfl) (eg_var rfl) eg_int) (to_tup (tos_cons to_name (tos_cons to_name tos_nil)) rfl) ?_
    refine q_asgT (call (r := 1) (act_ok hP hS (Nat.le_of_ble_eq_true rfl)) (Nat.le_of_ble_eq_true rfl) (eg_var rfl) (eg_var rfl) eg_int) (to_tup (tos_cons to_name (tos_cons to_name tos_nil)) rfl) ?_
    exact sg_ret (eg_tupD (ds := [wordsD (tickM P S).1, sitD (tickM P S).2]) (ag_cons (eg_tupD (ds := [.str (actM P S 0).1, .str (actM P (actM P S 0).2 1).1]) (ag_cons (eg_var rfl) (ag_cons (eg_var rfl) ag_nil)) (Nat.le_of_ble_eq_true rfl)) (ag_cons (eg_var rfl) ag_nil)) (Nat.le_of_ble_eq_true rfl))


def PhDays (K : PySem.W.Frag) (as : List En) (ψ : FP) : Prop := ∃ (P : Plm) (n : Nat), PlanOk P ∧ n ≤ 50000 ∧ as = [.fx (Dd K (planD P)), .fx (Dd K (iD n))] ∧ ψ = Dd K (.list (daysD P n))
def PhRepeats (K : PySem.W.Frag) (as : List En) (ψ : FP) : Prop := ∃ (P : Plm), PlanOk P ∧ as = [.fx (Dd K (planD P))] ∧ ψ = FP.ex (fun b : Bool => b = true → Repeats P 4000) fun b => Dd K (.bool b)
def PhCycle (K : PySem.W.Frag) (as : List En) (ψ : FP) : Prop := ∃ (P : Plm), PlanOk P ∧ Repeats P 4000 ∧ as = [.fx (Dd K (planD P))] ∧ ψ = FP.ex (fun c : Nat × Nat => Cyc P c.1 c.2 ∧ c.1 + c.2 ≤ 4000) fun c => Dd K (.tuple [.list (daysD P (c.1 + c.2)), iD c.1])
theorem days_last {P : Plm} {n : Nat} {K : PySem.W.Frag} : atI ((daysD P (n + 1)).map (Dd K)) (-1) = some (Dd K (dayD P n)) := by
  rw [days_snoc, List.map_append]
  exact atI_last

theorem ok__law_repeats (T : Txt K mg) : FnR P w K mg base (L2.CX P w) 3 (He.ga K "_law_repeats") (spG (PhRepeats K)) := by
  have G__law_empty := ok__law_empty (P := P) (w := w) (base := base) T
  have KP__law_empty : PySem.W.keepIn K (.ref (He.ga K "_law_empty")) = true := by
    obtain ⟨_, F⟩ := T.F__law_empty
    exact F.kp
  have G__law_tick := ok__law_tick (P := P) (w := w) (base := base) T
  have KP__law_tick : PySem.W.keepIn K (.ref (He.ga K "_law_tick")) = true := by
    obtain ⟨_, F⟩ := T.F__law_tick
    exact F.kp
  obtain ⟨fd, F⟩ := T.F__law_repeats
  have B : Binds K fd P__law_repeats [] := F.bindsN fun _ _ _ _ _ _ us hl => match us, hl with | [_], _ => rfl
  refine fnR_of F B (F.ok sc__law_repeats (fun vs H Q E h => spG_len h fun as ψ hΦ => ?_) (fun cdv A outer s H vs Q E hr h => ?_))
  · obtain ⟨Pl, hP, rfl, rfl⟩ := hΦ
    rfl
  · have hu := hu_of hr
    have hu64 := hr.units
    refine ⟨_, (pss_cons (ps_par (i := 1) (j := 2) rfl sc__law_repeats.nd rfl rfl (by decide) rfl rfl (pa_cons (pe_callR G__law_empty (hr.mono (by decide)) T.g__law_empty KP__law_empty px (pa_cons (pv 0) pa_nil)) (pa_cons pe_nnew pa_nil)) rfl)
        (pss_cons (ps_for (passes_of rfl) rfl (pi_range1 (by rfl) T.b_range (pa_cons pe_int pa_nil)) (pg_name (i := 3) sc__law_repeats.nd rfl (by first | exact Or.inl rfl | exact Or.inr rfl)) (pss_cons (ps_set (i := 4) sc__law_repeats.nd rfl (by first | exact Or.inl rfl | exact Or.inr rfl) (pe_callTy call_tuple_of (by rfl) T.b_tuple (by decide +kernel) (pa_cons (pe_lc (te := (tCB (fun xs H Q => ∃ p ys, xs = [V.ref p] ∧ ((SqL K H p ys ∧ ∀ l, H l = none → Q (V.ref l) (upd H l (.tup ys))) ∨ (SqT K H p ys ∧ Q (V.ref p) H))) (tCons (tVar 5) tNil))) (own := [("_law_part", 5)]) rfl sc__law_repeats.nd (pi_list (pv 1)) (blkOk_by (own := [("_law_part", 5)]) (N := N__law_repeats) (sc := defScope s__law_repeats) (by decide +kernel)) (fun _ _ _ _ _ => by exact pg_name (i := 5) sc__law_repeats.nd rfl (by first | exact Or.inl rfl | exact Or.inr rfl)) (fun _ _ _ _ _ => by exact pts_nil) (fun _ _ _ _ _ => by exact (pe_callTy call_tuple_of (by rfl) T.b_tuple (by decide +kernel) (pa_cons (pv 5) pa_nil)))) pa_nil)))
        (pss_cons (ps_if (pt_cmp (pc_nin hu64 (pv 4) (pv 2))) (pss_one (ps_ret pe_bl)) pss_nil)
        (pss_one (ps_asg (pe_tup (pa_cons pe_bl (pa_cons (pe_ix ix_tup (pe_callR G__law_tick (hr.mono (by decide)) T.g__law_tick KP__law_tick px (pa_cons (pv 0) (pa_cons (pv 1) pa_nil))) pe_int (fun _ _ => rfl)) pa_nil))) (pg_tup rfl (pgs_cons (pg_sub (pv 2) (pv 4) (set_nd hu64)) (pgs_cons (pg_name (i := 1) sc__law_repeats.nd rfl (by first | exact Or.inl rfl | exact Or.inr rfl)) pgs_nil))))))))
        (pss_one (ps_ret pe_bl)))), ?_⟩
    refine spG_body h fun m as ψ hΦ => ?_
    obtain ⟨Pl, hP, rfl, rfl⟩ := hΦ
    have key : ∀ {Γ : List En} {S : Sit}, Γ[1]? = some (.fx (Dd K (sitD S))) → (∀ R, Γ[5]? ≠ some (.oo R)) → 5 < Γ.length → EG m Γ (tCB (fun xs H Q => ∃ p ys, xs = [V.ref p] ∧ ((SqL K H p ys ∧ ∀ l, H l = none → Q (V.ref l) (upd H l (.tup ys))) ∨ (SqT K H p ys ∧ Q (V.ref p) H))) (tCons (tLc (iList K (tVar 1)) (gName 5) tYes (tCB (fun xs H Q => ∃ p ys, xs = [V.ref p] ∧ ((SqL K H p ys ∧ ∀ l, H l = none → Q (V.ref l) (upd H l (.tup ys))) ∨ (SqT K H p ys ∧ Q (V.ref p) H))) (tCons (tVar 5) tNil)) [5]) tNil)) (Dd K (keyL S)) := fun {Γ S} h1 h2 h3 => by
      refine eg_tupL (ds := [.tuple (intsD S.cs), .tuple (intsD S.ns), .tuple (boolsD S.hs), .tuple (intsD S.bx)]) (eg_eoD (eo_le (eo_lcM (it_list (φs := [Dd K (.list (intsD S.cs)), Dd K (.list (intsD S.ns)), Dd K (.list (boolsD S.hs)), Dd K (.list (intsD S.bx))]) (eg_le (eg_var h1) dp_lst)) (Nat.le_of_ble_eq_true rfl) (fun i hi R => ?_) (fun i => [Dd K (.tuple (intsD S.cs)), Dd K (.tuple (intsD S.ns)), Dd K (.tuple (boolsD S.hs)), Dd K (.tuple (intsD S.bx))].getD i (Dd K .none)) (fun i φ hi => ?_)) (fun h => h)))
      · rw [List.mem_singleton.mp hi]
        exact h2 R
      · refine ⟨_, tv_name (List.mem_singleton_self _), ?_⟩
        have hs : ((wipeG Γ [5]).set 5 (.fx φ))[5]? = some (.fx φ) := List.getElem?_set_self (by show _ < (Γ.set 5 .un).length; rw [List.length_set]; exact h3)
        match i, hi with
        | 0, hi => cases hi; exact eg_tupL (eg_var hs)
        | 1, hi => cases hi; exact eg_tupL (eg_var hs)
        | 2, hi => cases hi; exact eg_tupL (eg_var hs)
        | 3, hi => cases hi; exact eg_tupL (eg_var hs)
    
    let kv (n : Nat) := kvsOf keyL (fun _ => Dd K (.bool true)) Pl n
    refine q_parFO (φ := Dd K (sitD (sitAt Pl 0))) (eg_call (ag_cons (eg_var rfl) ag_nil) ⟨Pl, rfl, rfl⟩) (eo_nnew (P := P) (w := w) (K := K)) ?_
    refine q_forG (it_rng1 (K := K) (n := 4000) (ag_cons eg_int ag_nil) (by omega)) (fun i Γ' => ∃ x y, (∀ R, y ≠ .oo R) ∧ Γ' = [.fx (Dd K (planD Pl)), .fx (Dd K (sitD (sitAt Pl i))), .oo (NdO P w K (kv i)), x, y, .un]) ⟨.un, .un, (fun R h => by cases h), rfl⟩ (fun i φ Γ' hi ⟨x, y, hy, e⟩ => ?_) (fun Γ' ⟨x, y, hy, e⟩ => ?_)
    · subst e
      obtain ⟨hi, rfl⟩ := rngF_of hi
      refine ⟨_, to_name, ?_⟩
      refine q_asgG (key rfl (fun R h => by cases h) (Nat.le_of_ble_eq_true rfl)) ?_
      refine q_whenG (bg_test (eg_nin (i := 2) rfl (eg_var rfl) (keyL_ok _))) (fun hb => ?_) (fun hb => ?_)
      · have hb : (lookD (kv i) (keyL (sitAt Pl i))).isSome = true := hb.symm
        obtain ⟨j, h1, h2, _⟩ := look_some hb
        refine sg_seq (N := fun _ => False) (sg_ret (eg_le eg_bl fun {F v} h => ⟨true, fun _ => ⟨j, i, h1, by omega, keyL_inj h2⟩, h⟩)) fun _ h => h.elim
      · have hb : (lookD (kv i) (keyL (sitAt Pl i))).isSome = false := hb.symm
        have hn : lookD (kv i) (keyL (sitAt Pl i)) = none := by simpa using hb
        refine s_asgT (φ := TupF K [Dd K (.bool true), Dd K (sitD (sitAt Pl (i + 1)))]) (eg_tup (φs := [Dd K (.bool true), Dd K (sitD (sitAt Pl (i + 1)))]) (ag_cons eg_bl (ag_cons (eg_ixT (ds := [wordsD (wordsAt Pl i), sitD (sitAt Pl (i + 1))]) (eg_call (ag_cons (eg_var rfl) (ag_cons (eg_var rfl) ag_nil)) ⟨Pl, sitAt Pl i, hP, sitAt_ok hP i, rfl, rfl⟩) eg_int rfl) ag_nil)) (Nat.le_of_ble_eq_true rfl)) (to_tup (tos_cons (to_nset (i := 2) rfl (eg_var rfl) (keyL_ok _) hn (by rw [kvs_len]; omega)) (tos_cons to_name tos_nil)) rfl) ⟨.fx (Dd K (.int (0 + (i : Int)))), .fx (Dd K (keyL (sitAt Pl i))), (fun R h => by cases h), ?_⟩
        show _ = [_, _, En.oo (NdO P w K (kvsOf keyL (fun _ => Dd K (.bool true)) Pl (i + 1))), _, _, _]
        rw [kvs_snoc]
        rfl
    · subst e
      exact sg_ret (eg_le eg_bl fun {F v} h => ⟨false, (fun h => by cases h), h⟩)

end SB

set_option maxHeartbeats 4000000
namespace SB
open PySem PySem.Spec PyProof.Rows L2
open TL (tl)
open Evl
variable {P : Program} {w : World} {K : PySem.W.Frag} {mg : Str → Option Value} {base : Heap}

theorem ok__law_random (T : Txt K mg) : FnR P w K mg base (L2.CX P w) 1 (He.ga K "_law_random") (spRandom K) := by
  obtain ⟨fd, F⟩ := T.F__law_random
  have B : Binds K fd P__law_random [] := F.bindsN fun _ _ _ _ _ _ us hl => match us, hl with | [_, _], _ => rfl
  refine fnR_of F B (F.ok sc__law_random (fun vs H Q E h => ?_) (fun cdv A outer s H vs Q E hr h => ?_))
  · obtain ⟨sc, ns, salt, rfl, _⟩ := h
    rfl
  · have hu := hu_of hr
    obtain ⟨sc, ns, salt, rfl, hs, hl, k⟩ := h
    refine ⟨_, (pss_cons (ps_set (i := 2) sc__law_random.nd rfl (by first | exact Or.inl rfl | exact Or.inr rfl) (pv 1))
        (pss_cons (ps_for (passes_of rfl) rfl (pi_list (pv 0)) (pg_name (i := 3) sc__law_random.nd rfl (by first | exact Or.inl rfl | exact Or.inr rfl)) (pss_one (ps_set (i := 2) sc__law_random.nd rfl (by first | exact Or.inl rfl | exact Or.inr rfl) (pe_op op_modN (pe_op op_add (pe_op op_mul (pv 2) pe_int) (pe_callB call_abs (by rfl) T.b_abs (by decide +kernel) (pa_cons (pv 3) pa_nil))) pe_int))))
        (pss_one (ps_ret (pe_op op_cat (pe_lst (pa_cons (pv 2) (pa_cons pe_int pa_nil))) (pe_lc (te := (tVar 3)) (own := [("_law_cell", 3)]) rfl sc__law_random.nd (pi_list (pv 0)) (blkOk_by (own := [("_law_cell", 3)]) (N := N__law_random) (sc := defScope s__law_random) (by decide +kernel)) (fun _ _ _ _ _ => by exact pg_name (i := 3) sc__law_random.nd rfl (by first | exact Or.inl rfl | exact Or.inr rfl)) (fun _ _ _ _ _ => by exact (pts_one (pt_cmpR op_ge (pv 3) (pe_op op_pow pe_int pe_int) (nomark _)))) (fun _ _ _ _ _ => by exact (pv 3)))))))), ?_⟩
    refine q_asg (ev_var rfl) fun H1 e1 => ?_
    refine q_forL (ev_var rfl) (ex_l e1 hs) (fun i σ' H' => ∃ (s : Nat) (y : Option V), σ' = [some (.ref sc), some (.int salt), some (.int s), y] ∧ Ex H H') (fun H2 e2 => ⟨salt, none, rfl, e1.trans e2⟩) (fun i σ' H' _ ⟨_, _, _, e⟩ => ex_l e hs) ?_ ?_
    · rintro i x σ' H' hx ⟨s, y, rfl, e⟩
      obtain ⟨n, hn, rfl⟩ := List.mem_map.mp (List.mem_of_getElem? hx)
      refine s_asg (v := .int ((((s : Int) * 31 + (if n < 0 then -n else n)).fmod 2147483647).toNat : Nat)) (ev_is (ev_op (ev_op (ev_op (ev_var rfl) ev_c (rv_I (.inr ⟨by decide, by decide⟩))) (ev_abs (ev_var rfl)) rv_I0) ev_c (rv_I (by decide))) (congrArg V.int ?_)) fun H2 e2 => ⟨_, _, rfl, e.trans e2⟩
      rw [Int.toNat_of_nonneg (Int.fmod_nonneg_of_pos _ (by decide))]
    · rintro σ' H' ⟨s, y, rfl, e⟩
      refine s_retH ((el_lst (vs := [.int s, .int (0 : Nat)]) (ea_cons (ev_var rfl) (ea_cons ev_c ea_nil)) (by show 2 ≤ 100000; decide)) H' (Ex.refl H') _ fun p H2 hp e2 h2 => ?_)
      refine (el_lcL (xs := ns.map V.int) (fun i => decide ((10 : Int) ^ 18 ≤ ns.getD i 0)) (fun i => V.int (ns.getD i 0)) (ev_var rfl) (ex_l (e.trans e2) hs) (by rw [List.length_map]; omega) (fun _ => rfl) (fun i x H3 e3 hx => ?_) (fun i x H3 e3 hx _ => ?_)) H2 (Ex.refl H2) _ fun q H3 hq e3 h3 => ?_
      · rw [List.getElem?_map] at hx
        cases z : ns[i]? with
        | none => rw [z] at hx; cases hx
        | some n =>
          rw [z] at hx
          obtain rfl : V.int n = x := Option.some.inj hx
          rw [List.getD_eq_getElem?_getD, z]
          exact et_test (ev_op (ev_var rfl) (ev_op ev_c ev_c (rv_I (C := CPow) ⟨by decide, by decide, by decide⟩)) rv_I0)
      · rw [List.getElem?_map] at hx
        cases z : ns[i]? with
        | none => rw [z] at hx; cases hx
        | some n =>
          rw [z] at hx
          obtain rfl : V.int n = x := Option.some.inj hx
          rw [List.getD_eq_getElem?_getD, z]
          exact ev_var rfl
      have hlen : (given (ns.map V.int).length (fun i => decide ((10 : Int) ^ 18 ≤ ns.getD i 0)) (fun i => V.int (ns.getD i 0))).length ≤ 63 := by
        unfold given
        rw [List.length_map]
        exact Nat.le_trans (List.length_filter_le _ _) (by rw [List.length_range, List.length_map]; exact hl)
      refine ⟨p, q, _, _, rfl, rfl, e3 _ _ h2, h3, by have : 1000 < sizeLine := by decide
                                                      simp only [List.length_cons, List.length_nil]; omega, fun r hr => k r _ (fresh_back ((e.trans e2).trans e3) hr) (((e.trans e2).trans e3).trans (Ex.new hr)) ⟨_, upd_same, s, 0, ((List.range (ns.map V.int).length).filter fun i => decide ((10 : Int) ^ 18 ≤ ns.getD i 0)).map (fun i => (ns.getD i 0).toNat), ?_, ?_⟩⟩
      · show V.int s :: V.int (0 : Nat) :: given _ _ _ = _
        congr 2
        unfold given
        rw [List.map_map]
        refine List.map_congr_left fun i hi => ?_
        have := of_decide_eq_true (List.mem_filter.mp hi).2
        show V.int (ns.getD i 0) = V.int (((ns.getD i 0).toNat : Nat) : Int)
        rw [Int.toNat_of_nonneg (by omega)]
      · rw [List.length_map]
        unfold given at hlen
        rw [List.length_map] at hlen
        omega

theorem ok__law_below (T : Txt K mg) : FnR P w K mg base (L2.CX P w) 1 (He.ga K "_law_below") spBelow := by
  obtain ⟨fd, F⟩ := T.F__law_below
  have B : Binds K fd P__law_below [] := F.bindsN fun _ _ _ _ _ _ us hl => match us, hl with | [_, _], _ => rfl
  refine fnR_of F B (F.ok sc__law_below (fun vs H Q E h => ?_) (fun cdv A outer s H vs Q E hr h => ?_))
  · obtain ⟨a, lim, rfl, _⟩ := h
    rfl
  · have hu := hu_of hr
    obtain ⟨a, lim, rfl, hd, h0, h1, k⟩ := h
    refine ⟨_, (pss_cut (ps_if (pw_and (pt_cmpR op_eq (pe_ix ix_list (pv 0) pe_int (fun _ _ => rfl)) pe_int (nomark _)) (pw_and1 (pt_cmpR op_gt (pe_callB call_len_seq (by rfl) T.b_len (by decide +kernel) (pa_cons (pv 0) pa_nil)) pe_int (nomark _)))).pt (pss_one (ps_asg (pe_bm PySem.F.plainAttrs_list PySem.F.slot_list_pop PySem.F.type_list_pop mt_popAt (pv 0) (pa_cons pe_int pa_nil)) (pg_sub (pv 0) pe_int set_list))) pss_nil)
        (pss_cons (ps_if (pt_cmpR op_gt (pe_ix ix_list (pv 0) pe_int (fun _ _ => rfl)) pe_int (nomark _)) (pss_cons (ps_set (i := 2) sc__law_below.nd rfl (by first | exact Or.inl rfl | exact Or.inr rfl) (pe_op op_modN (pe_ix ix_list (pv 0) pe_int (fun _ _ => rfl)) (pv 1)))
        (pss_cons (ps_asg (pe_op op_fdivN (pe_ix ix_list (pv 0) pe_int (fun _ _ => rfl)) (pv 1)) (pg_sub (pv 0) pe_int set_list))
        (pss_one (ps_ret (pv 2))))) pss_nil)
        (pss_cons (ps_asg (pe_op op_modN (pe_op op_add (pe_op op_mul (pe_ix ix_list (pv 0) pe_int (fun _ _ => rfl)) pe_int) pe_int) pe_int) (pg_sub (pv 0) pe_int set_list))
        (pss_one (ps_ret (pe_op op_modN (pe_op op_fdivN (pe_ix ix_list (pv 0) pe_int (fun _ _ => rfl)) pe_int) (pv 1))))))), ?_⟩
    obtain ⟨xs, hx, s, c, bs, rfl, hbl⟩ := hd
    refine ⟨fun σ' H' => σ' = [some (.ref a), some (.int lim), none] ∧ ExN a H H' ∧ DAt a H', ?_, ?_⟩
    · refine s_if (b := decide (c = 0) && decide (2 < bs.length + 2)) (et_and (et_test (ev_is (ev_op (ev_op (ev_var rfl) ev_c (rv_ixL (i := ((1 : Nat) : Int)) (v := .int c) (sq_of hx) (at_nat rfl))) ev_c (rv_eq rfl)) ?_)) fun _ => et_test (ev_is (ev_op (ev_len (ev_var rfl) (sq_of hx)) ev_c rv_I0) ?_)) (fun hb H1 e1 => ?_) (fun hb H1 e1 => ⟨rfl, ExN.of e1, _, e1 _ _ hx, s, c, bs, rfl, hbl⟩)
      · show V.bl (decide (V.int c = V.int 0)) = _
        congr 1
        apply decide_eq_decide.mpr
        constructor
        · intro h
          have := V.int.inj h
          omega
        · intro h
          rw [h]
          rfl
      · show V.bl _ = V.bl _
        congr 1
        apply decide_eq_decide.mpr
        simp only [List.length_cons, List.length_map]
        omega
      · obtain ⟨h1, h2⟩ := Bool.and_eq_true_iff.mp hb
        have h2 := of_decide_eq_true h2
        cases bs with
        | nil => simp at h2
        | cons b r =>
          exact ⟨.ref a, rfl, Or.inl ⟨rfl, _, sq_of (e1 _ _ hx)⟩, a, _, 2, 2, .int b, rfl, rfl, e1 _ _ hx, by decide, by decide, sqi_nat (i := 2) (by show 2 < (r.map (fun (n : Nat) => V.int n)).length + 1 + 1 + 1; omega), rfl, .ref a, rfl, a, _, 1, 1, rfl, rfl, upd_same, ixN_nat (j := 1) (by show 1 < (r.map (fun (n : Nat) => V.int n)).length + 1 + 1; omega), rfl, fun z o nz hz => by
            rw [upd_ne nz, upd_ne nz]
            exact e1 _ _ hz, _, upd_same, s, b, r, rfl, by simp only [List.length_cons] at hbl; omega⟩
    rintro σ' H1 ⟨rfl, x1, xs, hx, s, c, bs, rfl, hbl⟩
    have pos : (lim : Int) ≠ 0 := by omega
    have lb : (lim : Int).natAbs < 1073741824 := by omega
    refine q_when (b := decide (0 < c)) (et_test (ev_is (ev_op (ev_op (ev_var rfl) ev_c (rv_ixL (i := ((1 : Nat) : Int)) (v := .int c) (sq_of hx) (at_nat rfl))) ev_c rv_I0) ?_)) (fun hb H2 e2 => ?_) (fun hb H2 e2 => ?_)
    · show V.bl _ = V.bl _
      congr 1
      apply decide_eq_decide.mpr
      omega
    · refine q_asg (v := .int ((c % lim : Nat) : Int)) (ev_is (ev_op (ev_op (ev_var rfl) ev_c (rv_ixL (i := ((1 : Nat) : Int)) (v := .int c) (sq_of (e2 _ _ hx)) (at_nat rfl))) (ev_var rfl) (rv_I pos)) (congrArg V.int ?_)) fun H3 e3 => ?_
      · rw [Int.fmod_eq_emod_of_nonneg _ (by omega)]
        omega
      have e23 := e2.trans e3
      refine q_setL (j := 1) (v := .int ((c / lim : Nat) : Int)) (e23 _ _ hx) (ev_is (ev_op (ev_op (ev_var rfl) ev_c (rv_ixL (i := ((1 : Nat) : Int)) (v := .int c) (sq_of (e23 _ _ hx)) (at_nat rfl))) (ev_var rfl) (rv_I ⟨pos, lb⟩)) (congrArg V.int ?_)) (ev_var rfl) ev_c (by show 1 < _ + 1 + 1; omega) fun H4 e4 => ?_
      · rw [Int.fdiv_eq_ediv_of_nonneg _ (by omega)]
        omega
      exact s_ret (ev_var rfl) fun H5 e5 => k _ H5 (Nat.mod_lt _ h0) (fun z o nz hz => e5 _ _ (by
        rw [upd_ne nz]
        exact (e23.trans e4) _ _ (x1 _ _ nz hz))) ⟨_, e5 _ _ upd_same, s, c / lim, bs, rfl, hbl⟩
    · refine q_setL (j := 0) (v := .int ((((s : Int) * 48271 + 11).fmod 2147483647).toNat : Nat)) (e2 _ _ hx) (ev_is (ev_op (ev_op (ev_op (ev_op (ev_var rfl) ev_c (rv_ixL (i := ((0 : Nat) : Int)) (v := .int s) (sq_of (e2 _ _ hx)) (at_nat rfl))) ev_c (rv_I (.inr ⟨by decide, by decide⟩))) ev_c rv_I0) ev_c (rv_I (by decide))) (congrArg V.int ?_)) (ev_var rfl) ev_c (by show 0 < _ + 1 + 1; omega) fun H3 e3 => ?_
      · rw [Int.toNat_of_nonneg (Int.fmod_nonneg_of_pos _ (by decide))]
      generalize (((s : Int) * 48271 + 11).fmod 2147483647).toNat = s1
      refine s_ret (v := .int ((s1 / 64 % lim : Nat) : Int)) (ev_is (ev_op (ev_op (ev_op (ev_var rfl) ev_c (rv_ixL (i := ((0 : Nat) : Int)) (v := .int s1) (sq_of upd_same) (at_nat rfl))) ev_c (rv_I (C := CDivN) ⟨by decide, by decide⟩)) (ev_var rfl) (rv_I pos)) (congrArg V.int ?_)) fun H4 e4 => k _ H4 (Nat.mod_lt _ h0) (fun z o nz hz => e4 _ _ (by
        rw [upd_ne nz]
        exact (e2.trans e3) _ _ (x1 _ _ nz hz))) ⟨_, e4 _ _ upd_same, s1, c, bs, rfl, hbl⟩
      rw [Int.fdiv_eq_ediv_of_nonneg _ (by decide), Int.fmod_eq_emod_of_nonneg _ (by omega), Int.natCast_emod, Int.natCast_ediv]
      rfl

end SB

set_option maxHeartbeats 4000000
namespace SB
open PySem PySem.Spec PyProof.Rows L2
open TL (tl)
open Evl
def rGetN (K : PySem.W.Frag) : V → V → Hp → VK → Prop := fun x y H Q => ∃ p xs, ∃ (i : Nat) (v : V), x = V.ref p ∧ y = V.int i ∧ SqL K H p xs ∧ xs[i]? = some v ∧ Q v H
theorem get_listN {X : Cx} : PGet X (rGetN X.K) := by
  intro pins s σ H o i ov iv Q I ro ri h
  obtain ⟨p, xs, k, v, rfl, rfl, hs, hk, q⟩ := h
  cases ro
  obtain ⟨t, rfl⟩ := ri
  obtain ⟨its, r, pl, hz⟩ := I.list hs
  obtain ⟨w, ew, rw'⟩ := r.get hk
  have hl := r.length
  have hn := line63
  have hlt := (List.getElem?_eq_some_iff.mp hk).1
  exact PyProof.Rows.getItem_listL pl.isList (by omega) (by omega) (by simpa using ew) ⟨v, H, I, rw', q⟩
/-- all but as stays -/
def ExB (as : List Addr) (H H' : Hp) : Prop := ∀ a o, a ∉ as → H a = some o → H' a = some o
theorem ExB.refl (as : List Addr) (H : Hp) : ExB as H H := fun _ _ _ h => h
theorem ExB.trans {as : List Addr} {H H1 H2 : Hp} (a : ExB as H H1) (b : ExB as H1 H2) : ExB as H H2 := fun x o n h => b x o n (a x o n h)
theorem ExB.of {as : List Addr} {H H' : Hp} (e : Ex H H') : ExB as H H' := fun a o _ h => e a o h
theorem ExB.put {as : List Addr} {H H' : Hp} {p : Addr} {o : HO} (e : ExB as H H') (h : p ∈ as) : ExB as H (upd H' p o) := fun a u n ha => by
  rw [upd_ne (fun z => n (by rw [z]; exact h))]
  exact e a u n ha
def iV (n : Nat) : V := .int (n : Int)
structure SA where
  (x dx st rc ld ns bl s0 s1 : Addr)
  (w0 w1 : List V)
def SA.mut (A : SA) : List Addr := [A.rc, A.ld, A.ns, A.bl]
def lkVs (s : Lk) : V := match s.2 with
  | none => .non
  | some n => .int n
/-- how a situation stands -/
structure SitIn (C : Addr) (H : Hp) (A : SA) (P : Plm) (S : Sit) : Prop where
  ob : H A.x = some (.ins C A.dx [("steps", .ref A.st), ("robot_cells", .ref A.rc), ("loaded", .ref A.ld), ("next_steps", .ref A.ns), ("boxes", .ref A.bl)])
  ss : H A.st = some (.tup [.ref A.s0, .ref A.s1])
  h0 : H A.s0 = some (.lst A.w0)
  h1 : H A.s1 = some (.lst A.w1)
  k0 : Paired (fun v s => ∃ a, v = .ref a ∧ H a = some (.tup [.str s.1, lkVs s])) A.w0 P.l0
  k1 : Paired (fun v s => ∃ a, v = .ref a ∧ H a = some (.tup [.str s.1, lkVs s])) A.w1 P.l1
  cs : H A.rc = some (.lst (S.cs.map iV))
  hs : H A.ld = some (.lst (S.hs.map V.bl))
  nx : H A.ns = some (.lst (S.ns.map iV))
  bx : H A.bl = some (.lst (S.bx.map iV))
  n1 : A.rc ≠ A.ld
  n2 : A.rc ≠ A.ns
  n3 : A.rc ≠ A.bl
  n4 : A.ld ≠ A.ns
  n5 : A.ld ≠ A.bl
  n6 : A.ns ≠ A.bl
  m0 : A.s0 ∉ A.mut
  m1 : A.s1 ∉ A.mut
section
variable {C : Addr} {H H' : Hp} {A : SA} {P : Plm} {S S' : Sit}
theorem SitIn.nmut {a : Addr} {o : HO} (h : SitIn C H A P S) (ha : H a = some o) (hn : ∀ xs, o ≠ .lst xs) : a ∉ A.mut := fun m => by
  have z : ∀ {b : Addr} {xs : List V}, H b = some (.lst xs) → a = b → False := fun {b xs} hb e => by
    subst e
    rw [ha] at hb
    exact hn _ (Option.some.inj hb)
  simp only [SA.mut, List.mem_cons, List.not_mem_nil, or_false] at m
  rcases m with m | m | m | m
  · exact z h.cs m
  · exact z h.hs m
  · exact z h.nx m
  · exact z h.bx m
/-- what the robots change -/
theorem SitIn.to (h : SitIn C H A P S) (e : ExB A.mut H H') (cs : H' A.rc = some (.lst (S'.cs.map iV))) (hs : H' A.ld = some (.lst (S'.hs.map V.bl))) (nx : H' A.ns = some (.lst (S'.ns.map iV))) (bx : H' A.bl = some (.lst (S'.bx.map iV))) : SitIn C H' A P S' := by
  have t : ∀ {ws : List V} {l : List Lk}, Paired (fun v (s : Lk) => ∃ a, v = V.ref a ∧ H a = some (.tup [.str s.1, lkVs s])) ws l → Paired (fun v (s : Lk) => ∃ a, v = V.ref a ∧ H' a = some (.tup [.str s.1, lkVs s])) ws l := fun r =>
    Paired.mapP r fun v s ⟨a, e1, e2⟩ => ⟨a, e1, e a _ (h.nmut e2 (fun _ z => by cases z)) e2⟩
  exact ⟨e _ _ (h.nmut h.ob (fun _ z => by cases z)) h.ob, e _ _ (h.nmut h.ss (fun _ z => by cases z)) h.ss, e _ _ h.m0 h.h0, e _ _ h.m1 h.h1, t h.k0, t h.k1, cs, hs, nx, bx, h.n1, h.n2, h.n3, h.n4, h.n5, h.n6, h.m0, h.m1⟩
theorem SitIn.ex (h : SitIn C H A P S) (e : Ex H H') : SitIn C H' A P S := h.to (ExB.of e) (e _ _ h.cs) (e _ _ h.hs) (e _ _ h.nx) (e _ _ h.bx)
theorem SitIn.steps (h : SitIn C H A P S) {r : Nat} (hr : r < 2) : ∃ s ws, [V.ref A.s0, V.ref A.s1][r]? = some (.ref s) ∧ H s = some (.lst ws) ∧ Paired (fun v (s : Lk) => ∃ a, v = V.ref a ∧ H a = some (.tup [.str s.1, lkVs s])) ws (lns P r) := by
  match r, hr with
  | 0, _ => exact ⟨A.s0, A.w0, rfl, h.h0, h.k0⟩
  | 1, _ => exact ⟨A.s1, A.w1, rfl, h.h1, h.k1⟩
end
/-- a method of a situation -/
def spSM (C : Addr) (φ : Plm → Sit → List V → V → Sit → Prop) : Sp := fun vs H Q _ => ∃ A P S us v S', vs = .ref A.x :: us ∧ SitIn C H A P S ∧ PlanOk P ∧ SitOk P S ∧ φ P S us v S' ∧ ∀ H', ExB A.mut H H' → SitIn C H' A P S' → Q v H'
theorem iv_at {l : List Nat} {i : Nat} (h : i < l.length) : (l.map iV)[i]? = some (iV (atN l i)) := by
  rw [List.getElem?_map, atN_get h]
  rfl
theorem bv_at {l : List Bool} {i : Nat} (h : i < l.length) : (l.map V.bl)[i]? = some (.bl (atB l i)) := by
  rw [List.getElem?_map, atB_get h]
  rfl
def FMove (P : Plm) (S : Sit) (us : List V) (v : V) (S' : Sit) : Prop := ∃ (r : Nat) (w : Str) (d : Int), r < 2 ∧ (w = "left" ∧ d = -1 ∨ w = "right" ∧ d = 1) ∧ us = [.int r, .int d] ∧ v = .bl (!stuckM S r w) ∧ S' = if stuckM S r w then S else movedM S r w
def FDo (w : Str) (P : Plm) (S : Sit) (us : List V) (v : V) (S' : Sit) : Prop := ∃ r : Nat, r < 2 ∧ us = [.int r] ∧ v = .bl (!stuckM S r w) ∧ S' = if stuckM S r w then S else movedM S r w
def FTry (P : Plm) (S : Sit) (us : List V) (v : V) (S' : Sit) : Prop := ∃ (r : Nat) (w : Str), r < 2 ∧ w ∈ commands ∧ us = [.int r, .str w] ∧ v = .bl (!stuckM S r w) ∧ S' = if stuckM S r w then S else movedM S r w
def FJump (P : Plm) (S : Sit) (us : List V) (v : V) (S' : Sit) : Prop := ∃ (r : Nat) (w : Str), r < 2 ∧ w ∈ jumps ∧ us = [.int r, .str w] ∧ v = .bl (jumpM S r w) ∧ S' = S
def FStep (P : Plm) (S : Sit) (us : List V) (v : V) (S' : Sit) : Prop := ∃ r : Nat, r < 2 ∧ us = [.int r] ∧ v = .str (actM P S r).1 ∧ S' = (actM P S r).2
end SB

set_option maxHeartbeats 4000000
namespace SB
open PySem PySem.Spec PyProof.Rows L2
open TL (tl)
open Evl
/-- tuple(xs), a new tuple -/
def rTupL (K : PySem.W.Frag) : List V → Hp → VK → Prop := fun xs H Q => ∃ p ys, xs = [V.ref p] ∧ ((SqL K H p ys ∧ ∀ l, H l = none → Q (V.ref l) (upd H l (.tup ys))) ∨ (SqT K H p ys ∧ Q (V.ref p) H))
section
variable {K : PySem.W.Frag} {σ : L2.St} {H H' : Hp} {te ta : TE} {tr t : TA}
theorem ap_tupL {p : Addr} {xs : List V} {R : List V → Hp → Prop} (h : Ev te σ H (.ref p)) (hp : H p = some (.lst xs)) (hr : ∀ b H1, Ex H H1 → H b = none → H1 b = some (.tup xs) → EvAP tr σ H1 (fun vs H2 => R (.ref b :: vs) H2)) :
    EvAP (tCons (tCB (rTupL K) (tCons te tNil)) tr) σ H R := fun H1 e Q q =>
  h H1 e _ fun H2 e2 => ⟨p, xs, rfl, .inl ⟨sq_of (e2 _ _ (e _ _ hp)), fun b hb => by
    have e3 : Ex H2 (upd H2 b (.tup xs)) := Ex.new hb
    exact hr b _ ((e.trans e2).trans e3) (fresh_back (e.trans e2) hb) upd_same _ (Ex.refl _) _ fun vs H3 e4 r => q _ H3 ((e2.trans e3).trans e4) r⟩⟩
theorem ep_tupP {R : List V → Hp → Prop} (h : EvAP t σ H R) (hl : ∀ vs H1, R vs H1 → vs.length ≤ sizeLine) : EvP (tTup t) σ H (fun v H' => ∃ b vs H1, v = .ref b ∧ Ex H H1 ∧ R vs H1 ∧ H1 b = none ∧ H' = upd H1 b (.tup vs)) := fun H1 e Q q =>
  h H1 e _ fun vs H2 e2 r => ⟨hl vs H2 r, fun b hb => q _ _ (e2.trans (Ex.new hb)) ⟨b, vs, H2, rfl, e.trans e2, r, hb, rfl⟩⟩
variable {D : L2.Ends} {tv : TE} {tz : TS} {f : Str}
theorem s_sfldP {i : Nat} {p dx C : Addr} {fs : List (Str × V)} {P : V → Hp → Prop} (h : EvP tv σ H P) (hs : σ[i]? = some (some (.ref p))) (hp : H p = some (.ins C dx fs)) (hc : Cls K C) (hn : NoAttr K C f) (hl : fs.length < 1000) (k : ∀ v H1, Ex H H1 → P v H1 → D.nx σ (upd H1 p (.ins C dx (putF f v fs)))) :
    sFld K (tVar i) tv f D σ H := h H (Ex.refl H) _ fun v H1 e q => ⟨_, hs, p, C, dx, fs, rfl, e _ _ hp, hc, hn, hl, k v H1 e q⟩
theorem q_sfldP {i : Nat} {p dx C : Addr} {fs : List (Str × V)} {P : V → Hp → Prop} (h : EvP tv σ H P) (hs : σ[i]? = some (some (.ref p))) (hp : H p = some (.ins C dx fs)) (hc : Cls K C) (hn : NoAttr K C f) (hl : fs.length < 1000) (k : ∀ v H1, Ex H H1 → P v H1 → tz D σ (upd H1 p (.ins C dx (putF f v fs)))) :
    tSeq (sFld K (tVar i) tv f) tz D σ H := s_sfldP (D := { D with nx := tz D }) h hs hp hc hn hl k
/-- a new list -/
def NewL (H : Hp) (xs : List V) : V → Hp → Prop := fun v H' => ∃ b, v = .ref b ∧ H b = none ∧ H' b = some (.lst xs)
theorem ep_listT {a : Addr} {xs : List V} (h : Ev te σ H (.ref a)) (ha : H a = some (.tup xs)) :
    EvP (tCB (fun xs H Q => ∃ p ys, xs = [V.ref p] ∧ (SqL K H p ys ∨ SqT K H p ys) ∧ ∀ l, H l = none → Q (V.ref l) (upd H l (.lst ys))) (tCons te tNil)) σ H (NewL H xs) := fun H1 e Q q =>
  h H1 e _ fun H2 e2 => ⟨a, xs, rfl, .inr (st_of (e2 _ _ (e _ _ ha))), fun l hl => q _ _ (e2.trans (Ex.new hl)) ⟨l, rfl, fresh_back (e.trans e2) hl, upd_same⟩⟩
theorem ep_listL {a : Addr} {xs : List V} (h : Ev te σ H (.ref a)) (ha : H a = some (.lst xs)) :
    EvP (tCB (fun xs H Q => ∃ p ys, xs = [V.ref p] ∧ (SqL K H p ys ∨ SqT K H p ys) ∧ ∀ l, H l = none → Q (V.ref l) (upd H l (.lst ys))) (tCons te tNil)) σ H (NewL H xs) := fun H1 e Q q =>
  h H1 e _ fun H2 e2 => ⟨a, xs, rfl, .inl (sq_of (e2 _ _ (e _ _ ha))), fun l hl => q _ _ (e2.trans (Ex.new hl)) ⟨l, rfl, fresh_back (e.trans e2) hl, upd_same⟩⟩
theorem ep_lstN {xs : List V} (h : EvA t σ H xs) (hl : xs.length ≤ sizeLine) : EvP (tLst t) σ H (NewL H xs) := fun H1 e Q q =>
  h H1 e _ fun H2 e2 => ⟨hl, fun l hn => q _ _ (e2.trans (Ex.new hn)) ⟨l, rfl, fresh_back (e.trans e2) hn, upd_same⟩⟩
/-- a new tuple -/
def NewT (H : Hp) (xs : List V) : V → Hp → Prop := fun v H' => ∃ b, v = .ref b ∧ H b = none ∧ H' b = some (.tup xs)
theorem ep_tupN {xs : List V} (h : EvA t σ H xs) (hl : xs.length ≤ sizeLine) : EvP (tTup t) σ H (NewT H xs) := fun H1 e Q q =>
  h H1 e _ fun H2 e2 => ⟨hl, fun l hn => q _ _ (e2.trans (Ex.new hn)) ⟨l, rfl, fresh_back (e.trans e2) hn, upd_same⟩⟩
/-- new behind stores at p -/
theorem freshB {p b : Addr} {H1 : Hp} {o o' : HO} (x : ExB [p] H H1) (hp : H p = some o) (hp' : H1 p = some o') (hb : H1 b = none) : H b = none ∧ b ≠ p := by
  have n : b ≠ p := fun e => by
    rw [e, hp'] at hb
    cases hb
  refine ⟨?_, n⟩
  cases q : H b with
  | none => rfl
  | some o2 =>
    rw [x b o2 (by simpa using n) q] at hb
    cases hb
end
theorem dqAll_ints {K : PySem.W.Frag} {F : Hp} : ∀ l : List Nat, DqAll K F (l.map iV) (intsD l)
  | [] => .nil
  | a :: r => .cons (.int _) (dqAll_ints r)
theorem dqAll_bools {K : PySem.W.Frag} {F : Hp} : ∀ l : List Bool, DqAll K F (l.map V.bl) (boolsD l)
  | [] => .nil
  | a :: r => .cons (.bl _) (dqAll_bools r)
/-- situation.pass_tick() -/
def spPass (C : Addr) : Sp := fun vs H Q _ => ∃ A P S, vs = [.ref A.x] ∧ SitIn C H A P S ∧ PlanOk P ∧ SitOk P S ∧ ∀ b H', ExB A.mut H H' → H b = none → H' b = some (.tup [.str (tickM P S).1.1, .str (tickM P S).1.2]) → SitIn C H' A P (tickM P S).2 → Q (.ref b) H'
/-- situation.frozen() -/
def spFrozen (K : PySem.W.Frag) (C : Addr) : Sp := fun vs H Q _ => ∃ A P S, vs = [.ref A.x] ∧ SitIn C H A P S ∧ ∀ b H', Ex H H' → Dq K (nw H H') (.ref b) (keyP S) → Q (.ref b) H'
theorem none_back {C : Addr} {H H1 : Hp} {A : SA} {P : Plm} {S S' : Sit} {b : Addr} (x : ExB A.mut H H1) (h : SitIn C H A P S) (h' : SitIn C H1 A P S') (hb : H1 b = none) : H b = none := by
  cases q : H b with
  | none => rfl
  | some o =>
    exfalso
    by_cases m : b ∈ A.mut
    · simp only [SA.mut, List.mem_cons, List.not_mem_nil, or_false] at m
      rcases m with m | m | m | m <;> rw [m] at hb
      · rw [h'.cs] at hb; cases hb
      · rw [h'.hs] at hb; cases hb
      · rw [h'.nx] at hb; cases hb
      · rw [h'.bx] at hb; cases hb
    · rw [x b o m q] at hb
      cases hb
theorem ints_of {K : PySem.W.Frag} {F : Hp} : ∀ {l : List Nat} {vs : List V}, DqAll K F vs (intsD l) → vs = l.map iV
  | [], [], .nil => rfl
  | _ :: _, _ :: _, .cons h r => by
    cases h
    rw [ints_of r]
    rfl
theorem bools_of {K : PySem.W.Frag} {F : Hp} : ∀ {l : List Bool} {vs : List V}, DqAll K F vs (boolsD l) → vs = l.map V.bl
  | [], [], .nil => rfl
  | _ :: _, _ :: _, .cons h r => by
    cases h
    rw [bools_of r]
    rfl
/-- a frozen situation, piece by piece -/
theorem key_of {K : PySem.W.Frag} {F : Hp} {v : V} {S : Sit} (h : Dq K F v (keyP S)) : ∃ f c l n b, v = .ref f ∧ F f = some (.tup [.ref c, .ref l, .ref n, .ref b]) ∧ F c = some (.tup (S.cs.map iV)) ∧ F l = some (.tup (S.hs.map V.bl)) ∧ F n = some (.tup (S.ns.map iV)) ∧ F b = some (.tup (S.bx.map iV)) := by
  cases h with
  | tup h0 r =>
    cases r with
    | cons r1 r =>
      cases r with
      | cons r2 r =>
        cases r with
        | cons r3 r =>
          cases r with
          | cons r4 r =>
            cases r
            cases r1 with
            | tup g1 k1 =>
              cases r2 with
              | tup g2 k2 =>
                cases r3 with
                | tup g3 k3 =>
                  cases r4 with
                  | tup g4 k4 =>
                    rw [ints_of k1] at g1
                    rw [bools_of k2] at g2
                    rw [ints_of k3] at g3
                    rw [ints_of k4] at g4
                    exact ⟨_, _, _, _, _, rfl, h0, g1, g2, g3, g4⟩
/-- what frozen builds -/
theorem frozen_dq {K : PySem.W.Frag} {H H1 H' : Hp} {S : Sit} {b1 b2 b3 b4 b : Addr} (e : Ex H1 H') (h1 : nw H H1 b1 = some (.tup (S.cs.map iV))) (h2 : nw H H1 b2 = some (.tup (S.hs.map V.bl))) (h3 : nw H H1 b3 = some (.tup (S.ns.map iV))) (h4 : nw H H1 b4 = some (.tup (S.bx.map iV)))
    (hb : nw H H' b = some (.tup [.ref b1, .ref b2, .ref b3, .ref b4])) : Dq K (nw H H') (.ref b) (keyP S) :=
  .tup hb (.cons (.tup (nw_ex e _ _ h1) (dqAll_ints _)) (.cons (.tup (nw_ex e _ _ h2) (dqAll_bools _)) (.cons (.tup (nw_ex e _ _ h3) (dqAll_ints _)) (.cons (.tup (nw_ex e _ _ h4) (dqAll_ints _)) .nil))))
end SB

set_option maxHeartbeats 4000000
namespace SB
open PySem PySem.Spec PyProof.Rows L2
open TL (tl)
open Evl
/-- tuples stay -/
def ExT (H H' : Hp) : Prop := ∀ a xs, H a = some (.tup xs) → H' a = some (.tup xs)
theorem ExT.refl (H : Hp) : ExT H H := fun _ _ h => h
theorem ExT.trans {H H1 H2 : Hp} (a : ExT H H1) (b : ExT H1 H2) : ExT H H2 := fun x xs h => b x xs (a x xs h)
theorem ExT.of {H H' : Hp} (e : Ex H H') : ExT H H' := fun a _ h => e a _ h
theorem ExT.put {H H' : Hp} {p : Addr} {o : HO} (h : ∀ xs, H' p ≠ some (.tup xs)) (e : ExT H H') : ExT H (upd H' p o) := fun a xs ha => by
  rw [upd_ne (fun z => h xs (by rw [← z]; exact e a xs ha))]
  exact e a xs ha
theorem ExT.sit {C : Addr} {H H' : Hp} {A : SA} {P : Plm} {S : Sit} (x : ExB A.mut H H') (h : SitIn C H A P S) : ExT H H' := fun a xs ha => x a _ (h.nmut ha (fun _ z => by cases z)) ha
theorem ExT.nw {H H1 H2 : Hp} (e : ExT H1 H2) : ExT (nw H H1) (nw H H2) := fun a xs h => by
  obtain ⟨h1, h2⟩ := nw_is h
  exact nw_of h1 (e a xs h2)
mutual
theorem dq_exT {K : PySem.W.Frag} {F F' : Hp} (e : ExT F F') : ∀ {v : V} {d : PyData}, Dq K F v d → kOk d = true → Dq K F' v d
  | _, _, .non, _ => .non
  | _, _, .bl b, _ => .bl b
  | _, _, .int i, _ => .int i
  | _, _, .str x, _ => .str x
  | _, _, .lst h r, k => by cases k
  | _, _, .tup h r, k => .tup (e _ _ h) (dqAll_exT e r k)
theorem dqAll_exT {K : PySem.W.Frag} {F F' : Hp} (e : ExT F F') : ∀ {vs : List V} {ds : List PyData}, DqAll K F vs ds → kOks ds = true → DqAll K F' vs ds
  | _, _, .nil, _ => .nil
  | _, _, .cons r t, k => .cons (dq_exT e r (Bool.and_eq_true_iff.mp k).1) (dqAll_exT e t (Bool.and_eq_true_iff.mp k).2)
end
def KsAt (K : PySem.W.Frag) (F : Hp) (Pl : Plm) (n : Nat) (ks : List NE) : Prop := Paired (fun (e : NE) (i : Nat) => e.1 = nkD (keyP (sitAt Pl i)) ∧ Dq K F (.ref e.2.1) (keyP (sitAt Pl i)) ∧ e.2.2 = .int (i : Int)) ks (List.range n)
def WsAt (F : Hp) (Pl : Plm) (n : Nat) (ws : List V) : Prop := Paired (fun v (i : Nat) => ∃ a, v = V.ref a ∧ F a = some (.tup [.str (wordsAt Pl i).1, .str (wordsAt Pl i).2])) ws (List.range n)
section
variable {K : PySem.W.Frag} {F F' : Hp} {Pl : Plm} {n : Nat} {ks : List NE} {ws : List V}
theorem KsAt.exT (e : ExT F F') (h : KsAt K F Pl n ks) : KsAt K F' Pl n ks := Paired.mapP h fun x i ⟨a, b, c⟩ => ⟨a, dq_exT e b (keyP_ok _).1, c⟩
theorem WsAt.exT (e : ExT F F') (h : WsAt F Pl n ws) : WsAt F' Pl n ws := Paired.mapP h fun x i ⟨a, b, c⟩ => ⟨a, b, e _ _ c⟩
theorem KsAt.len (h : KsAt K F Pl n ks) : ks.length = n := by rw [Paired.length h, List.length_range]
theorem WsAt.len (h : WsAt F Pl n ws) : ws.length = n := by rw [Paired.length h, List.length_range]
theorem KsAt.ok {H : Hp} (h : KsAt K F Pl n ks) (e : Ex F H) : KsOk K H ks := fun x hx => by
  obtain ⟨i, a, b, c⟩ := paired_mem h hx
  exact ⟨_, keyP_ok _, a, dq_ex e b⟩
theorem look_sit (S : Sit) : ∀ {ks : List NE} {l : List Nat}, Paired (fun (e : NE) (i : Nat) => e.1 = nkD (keyP (sitAt Pl i)) ∧ Dq K F (.ref e.2.1) (keyP (sitAt Pl i)) ∧ e.2.2 = .int (i : Int)) ks l → lookN ks (nkD (keyP S)) = (l.find? fun i => decide (sitAt Pl i = S)).map fun (i : Nat) => V.int (i : Int)
  | _, _, .nil => rfl
  | x :: _, i :: _, .cons r t => by
    by_cases q : sitAt Pl i = S
    · have e1 : nkD (keyP (sitAt Pl i)) = nkD (keyP S) := by rw [q]
      simp [lookN, List.find?, r.1, r.2.2, q]
    · have e1 : ¬ nkD (keyP (sitAt Pl i)) = nkD (keyP S) := fun h => q (keyP_inj h)
      have ih := look_sit S t
      unfold lookN at ih ⊢
      rw [List.find?_cons_of_neg (by rw [r.1]; simpa using e1), List.find?_cons_of_neg (by simpa using q)]
      exact ih
theorem KsAt.out (h : KsAt K F Pl n ks) {S : Sit} (hn : lookN ks (nkD (keyP S)) = none) {i : Nat} (hi : i < n) : sitAt Pl i ≠ S := fun e => by
  rw [look_sit S h, Option.map_eq_none_iff, List.find?_eq_none] at hn
  exact hn i (List.mem_range.mpr hi) (decide_eq_true e)
theorem KsAt.get {v : V} (h : KsAt K F Pl n ks) {S : Sit} (hs : lookN ks (nkD (keyP S)) = some v) : ∃ i, i < n ∧ sitAt Pl i = S ∧ v = .int (i : Int) := by
  rw [look_sit S h] at hs
  obtain ⟨i, h1, h2⟩ := Option.map_eq_some_iff.mp hs
  exact ⟨i, List.mem_range.mp (List.mem_of_find?_eq_some h1), of_decide_eq_true (List.find?_some (p := fun i => decide (sitAt Pl i = S)) h1), h2.symm⟩
theorem KsAt.snoc (h : KsAt K F Pl n ks) {a : Addr} (ha : Dq K F (.ref a) (keyP (sitAt Pl n))) (hn : lookN ks (nkD (keyP (sitAt Pl n))) = none) : KsAt K F Pl (n + 1) (putN ks (nkD (keyP (sitAt Pl n))) a (.int (n : Int))) := by
  unfold putN
  rw [hn, if_neg (by decide)]
  unfold KsAt
  rw [List.range_succ]
  exact paired_app h ⟨rfl, ha, rfl⟩
theorem WsAt.snoc (h : WsAt F Pl n ws) {a : Addr} (ha : F a = some (.tup [.str (wordsAt Pl n).1, .str (wordsAt Pl n).2])) : WsAt F Pl (n + 1) (ws ++ [.ref a]) := by
  unfold WsAt
  rw [List.range_succ]
  exact paired_app h ⟨a, rfl, ha⟩
theorem KsAt.dq (h : KsAt K F Pl n ks) : DqAll K F (ks.map fun e => V.ref e.2.1) ((List.range n).map fun i => keyP (sitAt Pl i)) := by
  unfold KsAt at h
  generalize List.range n = l at h
  induction h with
  | nil => exact .nil
  | cons r t ih => exact .cons r.2.1 ih
theorem WsAt.dq (h : WsAt F Pl n ws) : DqAll K F ws ((List.range n).map fun i => wordsD (wordsAt Pl i)) := by
  unfold WsAt at h
  generalize List.range n = l at h
  induction h with
  | nil => exact .nil
  | cons r t ih =>
    obtain ⟨a, e, ha⟩ := r
    rw [e]
    exact .cons (.tup ha (.cons (.str _) (.cons (.str _) .nil))) ih
end
theorem SitIn.put {C : Addr} {H : Hp} {A : SA} {P : Plm} {S : Sit} {d : Addr} {o o' : HO} (h : SitIn C H A P S) (hd : H d = some o) (nm : d ∉ A.mut) (n0 : d ≠ A.s0) (n1 : d ≠ A.s1) (ni : ∀ C dx fs, o ≠ .ins C dx fs) (nt : ∀ xs, o ≠ .tup xs) : SitIn C (upd H d o') A P S := by
  have z : ∀ {a : Addr} {u : HO}, H a = some u → a ≠ d → upd H d o' a = some u := fun ha n => by rw [upd_ne n]; exact ha
  have mm : ∀ {a : Addr}, a ∈ A.mut → a ≠ d := fun m e => nm (e ▸ m)
  have tt : ∀ {a : Addr} {xs : List V}, H a = some (.tup xs) → a ≠ d := fun ha e => by
    rw [e, hd] at ha
    exact nt _ (Option.some.inj ha)
  have t : ∀ {ws : List V} {l : List Lk}, Paired (fun v (s : Lk) => ∃ a, v = V.ref a ∧ H a = some (.tup [.str s.1, lkVs s])) ws l → Paired (fun v (s : Lk) => ∃ a, v = V.ref a ∧ upd H d o' a = some (.tup [.str s.1, lkVs s])) ws l := fun r =>
    Paired.mapP r fun v s ⟨a, e1, e2⟩ => ⟨a, e1, z e2 (tt e2)⟩
  refine ⟨z h.ob (fun e => ?_), z h.ss (tt h.ss), z h.h0 (Ne.symm n0), z h.h1 (Ne.symm n1), t h.k0, t h.k1, z h.cs (mm (by simp [SA.mut])), z h.hs (mm (by simp [SA.mut])), z h.nx (mm (by simp [SA.mut])), z h.bx (mm (by simp [SA.mut])), h.n1, h.n2, h.n3, h.n4, h.n5, h.n6, h.m0, h.m1⟩
  have := h.ob
  rw [e, hd] at this
  exact ni _ _ _ (Option.some.inj this)
/-- a run in the making -/
structure RunInv (P : Program) (w : World) (K : PySem.W.Frag) (C : Addr) (B H H' : Hp) (A : SA) (d wl b : Addr) (Pl : Plm) (n : Nat) : Prop where
  eb : Ex B H
  ex : Ex H H'
  sit : SitIn C H' A Pl (sitAt Pl n)
  fA : ∀ a ∈ A.mut, H a = none
  dA : d ∉ A.mut
  wA : wl ∉ A.mut
  dw : d ≠ wl
  d0 : H d = none
  w0 : H wl = none
  td : ∃ ks, H' d = some (DN P w d ks) ∧ KsAt K (nw B H') Pl n ks
  tw : ∃ ws, H' wl = some (.lst ws) ∧ WsAt (nw B H') Pl n ws
  bf : Dq K (nw B H') (.ref b) (keyP (sitAt Pl n))
  new : ∀ i j, i < j → j < n → sitAt Pl i ≠ sitAt Pl j
  le : n ≤ 20000
  s0 : H A.s0 ≠ none
  s1 : H A.s1 ≠ none
section
variable {P : Program} {w : World} {K : PySem.W.Frag} {C : Addr} {B H H1 H2 H3 H4 : Hp} {A : SA} {d wl b b' : Addr} {Pl : Plm} {n : Nat}
/-- one more tick -/
theorem RunInv.step (I : RunInv P w K C B H H1 A d wl b Pl n) {ks : List NE} {ws : List V} (hk : H1 d = some (DN P w d ks)) (hK : KsAt K (nw B H1) Pl n ks) (hw : H1 wl = some (.lst ws)) (hW : WsAt (nw B H1) Pl n ws) (hn : lookN ks (nkD (keyP (sitAt Pl n))) = none) (hl : n + 1 ≤ 20000)
    (e2 : H2 = upd H1 d (DN P w d (putN ks (nkD (keyP (sitAt Pl n))) b (.int (n : Int))))) (x3 : ExB A.mut H2 H3) {a : Addr} (ha0 : H2 a = none) (ha : H3 a = some (.tup [.str (wordsAt Pl n).1, .str (wordsAt Pl n).2])) (h3 : SitIn C H3 A Pl (sitAt Pl (n + 1)))
    (e4 : Ex (upd H3 wl (.lst (ws ++ [.ref a]))) H4) (hb : Dq K (nw (upd H3 wl (.lst (ws ++ [.ref a]))) H4) (.ref b') (keyP (sitAt Pl (n + 1)))) : RunInv P w K C B H H4 A d wl b' Pl (n + 1) := by
  subst e2
  have x12 : Ex H (upd H1 d (DN P w d (putN ks (nkD (keyP (sitAt Pl n))) b (.int (n : Int))))) := Ex.mut I.ex I.d0
  have x13 : Ex H H3 := fun q o h => x3 q o (fun m => by rw [I.fA q m] at h; cases h) (x12 q o h)
  have x14 : Ex H (upd H3 wl (.lst (ws ++ [.ref a]))) := Ex.mut x13 I.w0
  have hd3 : H3 d = some (DN P w d (putN ks (nkD (keyP (sitAt Pl n))) b (.int (n : Int)))) := x3 _ _ I.dA upd_same
  have hw3 : H3 wl = some (.lst ws) := x3 _ _ I.wA (by rw [upd_ne (Ne.symm I.dw)]; exact hw)
  have I2 : SitIn C (upd H1 d (DN P w d (putN ks (nkD (keyP (sitAt Pl n))) b (.int (n : Int))))) A Pl (sitAt Pl n) := I.sit.put hk I.dA (fun e => I.s0 (e ▸ I.d0)) (fun e => I.s1 (e ▸ I.d0)) (fun _ _ _ e => by cases e) (fun _ e => by cases e)
  have t1 : ExT H1 (upd H1 d (DN P w d (putN ks (nkD (keyP (sitAt Pl n))) b (.int (n : Int))))) := (ExT.refl H1).put (fun xs h => by rw [hk] at h; cases h)
  have t3 : ExT H1 H3 := t1.trans (ExT.sit x3 I2)
  have t4 : ExT H1 H4 := (t3.put (o := .lst (ws ++ [.ref a])) (fun xs h => by rw [hw3] at h; cases h)).trans (ExT.of e4)
  have sn : SitIn C (upd H3 wl (.lst (ws ++ [.ref a]))) A Pl (sitAt Pl (n + 1)) := h3.put hw3 I.wA (fun e => I.s0 (e ▸ I.w0)) (fun e => I.s1 (e ▸ I.w0)) (fun _ _ _ e => by cases e) (fun _ e => by cases e)
  have haw : a ≠ wl := fun e => by
    rw [e, hw3] at ha
    cases ha
  have ha0' : H a = none := by
    cases q : H a with
    | none => rfl
    | some o =>
      rw [x12 a o q] at ha0
      cases ha0
  refine ⟨I.eb, x14.trans e4, sn.ex e4, I.fA, I.dA, I.wA, I.dw, I.d0, I.w0, ⟨_, e4 _ _ (by rw [upd_ne I.dw]; exact hd3), (hK.exT t4.nw).snoc (dq_exT t4.nw I.bf (keyP_ok _).1) hn⟩, ⟨_, e4 _ _ upd_same, (hW.exT t4.nw).snoc (nw_of (fresh_back I.eb ha0') (e4 _ _ (by rw [upd_ne haw]; exact ha)))⟩, dq_ex (nw_later (I.eb.trans x14)) hb, fun i j hij hj => ?_, hl, I.s0, I.s1⟩
  by_cases c : j = n
  · rw [c]
    exact hK.out hn (by omega)
  · exact I.new i j hij (by omega)
end
theorem RunInv.grow {P : Program} {w : World} {K : PySem.W.Frag} {C : Addr} {B H H1 H2 : Hp} {A : SA} {d wl b : Addr} {Pl : Plm} {n : Nat} (I : RunInv P w K C B H H1 A d wl b Pl n) (e : Ex H1 H2) : RunInv P w K C B H H2 A d wl b Pl n := by
  obtain ⟨ks, k1, k2⟩ := I.td
  obtain ⟨ws, w1, w2⟩ := I.tw
  exact ⟨I.eb, I.ex.trans e, I.sit.ex e, I.fA, I.dA, I.wA, I.dw, I.d0, I.w0, ⟨ks, e _ _ k1, k2.exT (ExT.of e).nw⟩, ⟨ws, e _ _ w1, w2.exT (ExT.of e).nw⟩, dq_ex (nw_ex e) I.bf, I.new, I.le, I.s0, I.s1⟩
theorem nw_old {H H' : Hp} {p : Addr} {o o' : HO} (h : H p = some o') : nw H (upd H' p o) = nw H H' := by
  funext a
  unfold nw
  split
  · rename_i q
    rw [upd_ne (fun e => by rw [e, h] at q; cases q)]
  · rfl
theorem Repeats.mono {P : Plm} {n m : Nat} (h : Repeats P n) (l : n ≤ m) : Repeats P m := by
  obtain ⟨i, j, a, b, c⟩ := h
  exact ⟨i, j, a, by omega, c⟩
/-- H without an object -/
def wo (H : Hp) (f : Addr) : Hp := fun a => if a = f then none else H a
theorem wo_ex {H : Hp} {f : Addr} : Ex (wo H f) H := fun a o h => by
  unfold wo at h
  split at h
  · cases h
  · exact h
theorem wo_of {H : Hp} {f a : Addr} {o : HO} (n : a ≠ f) (h : H a = some o) : wo H f a = some o := by
  unfold wo
  rw [if_neg n]
  exact h
theorem wo_self {H : Hp} {f : Addr} : wo H f f = none := by
  unfold wo
  rw [if_pos rfl]
theorem wo_none {H : Hp} {f a : Addr} (h : H a = none) : wo H f a = none := by
  unfold wo
  split
  · rfl
  · exact h
/-- what is new, and f, in a frozen heap -/
theorem nw_wo {F H H' : Hp} {f : Addr} {o : HO} (x : Ex (nw H H') F) (hf : F f = some o) (hH : H f = some o) (e : Ex H H') : Ex (nw (wo H f) H') F := fun a u h => by
  obtain ⟨h1, h2⟩ := nw_is h
  by_cases c : a = f
  · subst c
    rw [e _ _ hH] at h2
    rw [hf]
    exact h2
  · refine x _ _ (nw_of ?_ h2)
    unfold wo at h1
    rw [if_neg c] at h1
    exact h1
/-! ### a whole run -/
def RunD (K : PySem.W.Frag) (C : Addr) (F G : Hp) (x : Addr) (Pl : Plm) (b l : Nat) : Prop := ∃ dx sl wl, F x = some (.ins C dx [("situations", .ref sl), ("words", .ref wl), ("begin", iV b), ("length", iV l)]) ∧ Dq K G (.ref sl) (.list ((List.range (b + l)).map fun i => keyP (sitAt Pl i))) ∧ Dq K G (.ref wl) (.list ((List.range (b + l)).map fun i => wordsD (wordsAt Pl i)))
theorem ev_lenN {P : Program} {w : World} {H : Hp} {ta : TE} {σ : L2.St} {d : Addr} {ks : List NE} (ha : Ev ta σ H (.ref d)) (hd : H d = some (DN P w d ks)) : Ev (tCB (fun xs H Q => ∃ p ks, xs = [V.ref p] ∧ H p = some (DN P w p ks) ∧ Q (.int ks.length) H) (tCons ta tNil)) σ H (.int ks.length) := fun H1 e Q q =>
  ha H1 e _ fun H2 e2 => ⟨d, ks, rfl, e2 _ _ (e _ _ hd), q H2 e2⟩
theorem ep_listN {P : Program} {w : World} {H : Hp} {ta : TE} {σ : L2.St} {d : Addr} {ks : List NE} (ha : Ev ta σ H (.ref d)) (hd : H d = some (DN P w d ks)) : EvP (tCB (fun xs H Q => ∃ p ks, xs = [V.ref p] ∧ H p = some (DN P w p ks) ∧ ∀ q, H q = none → Q (.ref q) (upd H q (.lst (ks.map fun e => V.ref e.2.1)))) (tCons ta tNil)) σ H (NewL H (ks.map fun e => V.ref e.2.1)) := fun H1 e Q q =>
  ha H1 e _ fun H2 e2 => ⟨d, ks, rfl, e2 _ _ (e _ _ hd), fun l hl => q _ _ (e2.trans (Ex.new hl)) ⟨l, rfl, fresh_back (e.trans e2) hl, upd_same⟩⟩
theorem ev_nget {P : Program} {w : World} {K : PySem.W.Frag} {H : Hp} {ta tb : TE} {σ : L2.St} {d b : Addr} {ks : List NE} {D : PyData} {v : V} (ha : Ev ta σ H (.ref d)) (hb : Ev tb σ H (.ref b)) (hd : H d = some (DN P w d ks)) (ok : ∀ H1, Ex H H1 → KsOk K H1 ks) (kd : KeyD D) (hD : Dq K H (.ref b) D) (hl : lookN ks (nkD D) = some v) : Ev (tNGet P w K ta tb) σ H v := fun H1 e Q q =>
  ha H1 e _ fun H2 e2 => hb H2 (e.trans e2) _ fun H3 e3 => ⟨d, b, ks, D, v, rfl, rfl, (e2.trans e3) _ _ (e _ _ hd), ok H3 ((e.trans e2).trans e3), kd, dq_ex ((e.trans e2).trans e3) hD, hl, q H3 (e2.trans e3)⟩
end SB

set_option maxHeartbeats 4000000
namespace SB
open PySem PySem.Spec PyProof.Rows L2
open TL (tl)
open Evl
section
variable {m : Fm} {F F' H H' : Hp} {σ : L2.St} {Γ : List En}
/-- all that is new is frozen -/
theorem GE.all (h : GE m F H σ Γ) (x : Ex H H') : ∃ F', Ex F F' ∧ Ex (nw H H') F' ∧ GE m F' H' σ Γ ∧ XF m F H F' H' := by
  have fn : ∀ {a o}, nw H H' a = some o → F a = none := fun {a o} q => by
    cases w : F a with
    | none => rfl
    | some u =>
      exact absurd (nw_is q).1 (by rw [h.fh a u w]; simp)
  have e1 : Ex F (fun a => (F a).or (nw H H' a)) := fun a o q => by
    show (F a).or _ = _
    rw [q]
    rfl
  have e2 : Ex (nw H H') (fun a => (F a).or (nw H H' a)) := fun a o q => by
    show (F a).or _ = _
    rw [fn q, q]
    rfl
  have nn : ∀ p o, (F p).or (nw H H' p) = some o → F p = none → H p = none := fun p o q z => by
    rw [z] at q
    exact (nw_is q).1
  have fh : Ex (fun a => (F a).or (nw H H' a)) H' := fun a o q => by
    cases w : F a with
    | none =>
      have q : (F a).or (nw H H' a) = some o := q
      rw [w] at q
      exact (nw_is q).2
    | some u =>
      have q : (F a).or (nw H H' a) = some o := q
      rw [w] at q
      rw [x _ _ (h.fh a u w)]
      exact q
  exact ⟨_, e1, e2, h.step e1 fh nn (fun p o _ _ q => x p o q) (fun a e => (h.dr a e).1.ex x), e1, fun p o _ q => x p o q, nn, fun p o q => ⟨o, x p o q⟩⟩
end
section
variable {m : Fm} {K : PySem.W.Frag} {Γ : List En} {ta te : TE} {t : TA} {φ ψ : FP} {es : List En} {XE : XK} {sp : Sp}
/-- the promise of what is new, in the logic -/
def NewG (F H : Hp) (ψ : FP) (Q : VK) : Prop := ∀ v H', Ex H H' → (∀ F', Ex F F' → Ex (nw H H') F' → ψ.p F' v) → Q v H'
theorem eg_old (h : ∀ F H σ, GE m F H σ Γ → ∀ Q : VK, NewG F H ψ Q → te σ H Q) : EG m Γ te ψ := fun F H σ E Q q => h F H σ E Q fun v H' e p => by
  obtain ⟨F', x1, x2, E', x⟩ := E.all e
  exact q v F' H' x E' (p F' x1 x2)
theorem eg_callO (h : AG m Γ t es) (hs : ∀ F H vs, Ex F H → Ags m F vs es → ∀ Q : VK, NewG F H ψ Q → sp vs H Q XE) : EG m Γ (tCallR sp XE t) ψ := fun F H σ E Q q => h F H σ E _ fun vs F1 H1 x1 E1 p1 =>
  hs F1 H1 vs E1.fh p1 Q fun v H' e p => by
    obtain ⟨F', y1, y2, E', x⟩ := E1.all e
    exact q v F' H' (x1.trans x) E' (p F' y1 y2)
/-- a new instance -/
theorem eg_makeO {C : Addr} (h : AG m Γ t es) (hs : ∀ F H vs, Ex F H → Ags m F vs es → ∀ x dx, H x = none → H dx = none → dx ≠ x → ∀ Q : VK, (∀ H', Ex H H' → (∀ F', Ex F F' → Ex (nw H H') F' → ψ.p F' (.ref x)) → Q .non H') → sp (.ref x :: vs) (upd (upd H dx (.own x)) x (.ins C dx [])) Q XE) : EG m Γ (StX.tMakeR C sp XE t) ψ := fun F H σ E Q q => h F H σ E _ fun vs F1 H1 x1 E1 p1 =>
  fun x dx nx ndx ne => hs F1 H1 vs E1.fh p1 x dx nx ndx ne _ fun H' e p => by
    obtain ⟨F', y1, y2, E', xx⟩ := E1.all e
    exact ⟨rfl, q _ F' H' (x1.trans xx) E' (p F' y1 y2)⟩
theorem eg_fld {f : Str} (ha : EG m Γ ta φ) (hf : ∀ F v, φ.p F v → ∃ a C dx fs u, v = .ref a ∧ F a = some (.ins C dx fs) ∧ Cls K C ∧ NoAttr K C f ∧ fs.lookup f = some u ∧ ψ.p F u) : EG m Γ (tFld K ta f) ψ := fun F H σ E Q q => ha F H σ E _ fun v F1 H1 x1 E1 p1 => by
  obtain ⟨a, C, dx, fs, u, e, h1, h2, h3, h4, h5⟩ := hf F1 v p1
  exact ⟨a, C, dx, fs, u, e, E1.fh _ _ h1, h2, h3, h4, q u F1 H1 x1 E1 h5⟩
/-- a frozen instance without a field of that name -/
def InsAt (φ : FP) (C : Addr) (f : Str) : Prop := ∀ F v, φ.p F v → ∃ a dx fs, v = .ref a ∧ F a = some (.ins C dx fs) ∧ fs.lookup f = none
theorem eg_meth0 {C : Addr} {f : Str} {Φ : List En → FP → Prop} (ha : EG m Γ ta φ) (hi : InsAt φ C f) (hΦ : Φ [.fx φ] ψ) : EG m Γ (tMethR0 C f (spG Φ) XE ta) ψ := fun F H σ E Q q => ha F H σ E _ fun v F1 H1 x1 E1 p1 => by
  obtain ⟨a, dx, fs, e, h1, h2⟩ := hi F1 v p1
  refine ⟨a, dx, fs, e, E1.fh _ _ h1, h2, ⟨F1, H1, m.M⟩, [.fx φ], ψ, hΦ, rfl, .cons p1 .nil, ge_call E1, fun v F' H' σ' Γ' E' p => ?_⟩
  obtain ⟨E2, x2⟩ := ge_ret E1 E'
  exact q v F' H' (x1.trans x2) E2 p
theorem eg_meth {C : Addr} {f : Str} {Φ : List En → FP → Prop} (ha : EG m Γ ta φ) (hi : InsAt φ C f) (ht : AG m Γ t es) (hΦ : Φ (.fx φ :: es) ψ) : EG m Γ (tMethR C f (spG Φ) XE ta t) ψ := fun F H σ E Q q => ha F H σ E _ fun v F1 H1 x1 E1 p1 => by
  obtain ⟨a, dx, fs, e, h1, h2⟩ := hi F1 v p1
  refine ⟨a, dx, fs, e, E1.fh _ _ h1, h2, ht F1 H1 σ E1 _ fun vs F2 H2 x2 E2 p2 => ⟨⟨F2, H2, m.M⟩, .fx φ :: es, ψ, hΦ, rfl, .cons (φ.mono x2.f p1) (Paired.mapP p2 (fun v e r => by cases e <;> exact r)), ge_call E2, fun v F' H' σ' Γ' E' p => ?_⟩⟩
  obtain ⟨E3, x3⟩ := ge_ret E2 E'
  exact q v F' H' ((x1.trans x2).trans x3) E3 p
theorem eg_methE {α : Type} {R : α → Prop} {g : α → FP} {C : Addr} {f : Str} {Φ : List En → FP → Prop} (ha : EG m Γ ta (FP.ex R g)) (hi : ∀ a, R a → InsAt (g a) C f) (ht : AG m Γ t es) (hΦ : ∀ a, R a → Φ (.fx (g a) :: es) ψ) : EG m Γ (tMethR C f (spG Φ) XE ta t) ψ := fun F H σ E Q q => ha F H σ E _ fun v F1 H1 x1 E1 ⟨a0, r0, p1⟩ => by
  obtain ⟨a, dx, fs, e, h1, h2⟩ := hi a0 r0 F1 v p1
  refine ⟨a, dx, fs, e, E1.fh _ _ h1, h2, ht F1 H1 σ E1 _ fun vs F2 H2 x2 E2 p2 => ⟨⟨F2, H2, m.M⟩, .fx (g a0) :: es, ψ, hΦ a0 r0, rfl, .cons ((g a0).mono x2.f p1) (Paired.mapP p2 (fun v e r => by cases e <;> exact r)), ge_call E2, fun v F' H' σ' Γ' E' p => ?_⟩⟩
  obtain ⟨E3, x3⟩ := ge_ret E2 E'
  exact q v F' H' ((x1.trans x2).trans x3) E3 p
theorem eg_meth0E {α : Type} {R : α → Prop} {g : α → FP} {C : Addr} {f : Str} {Φ : List En → FP → Prop} (ha : EG m Γ ta (FP.ex R g)) (hi : ∀ a, R a → InsAt (g a) C f) (hΦ : ∀ a, R a → Φ [.fx (g a)] ψ) : EG m Γ (tMethR0 C f (spG Φ) XE ta) ψ := fun F H σ E Q q => ha F H σ E _ fun v F1 H1 x1 E1 ⟨a0, r0, p1⟩ => by
  obtain ⟨a, dx, fs, e, h1, h2⟩ := hi a0 r0 F1 v p1
  refine ⟨a, dx, fs, e, E1.fh _ _ h1, h2, ⟨F1, H1, m.M⟩, [.fx (g a0)], ψ, hΦ a0 r0, rfl, .cons p1 .nil, ge_call E1, fun v F' H' σ' Γ' E' p => ?_⟩
  obtain ⟨E2, x2⟩ := ge_ret E1 E'
  exact q v F' H' (x1.trans x2) E2 p
end
/-- a run that is frozen -/
def RunF (K : PySem.W.Frag) (C : Addr) (Pl : Plm) (b l : Nat) : FP := ⟨fun F v => ∃ x, v = .ref x ∧ RunD K C F F x Pl b l, fun e ⟨x, h, dx, sl, wl, h1, h2, h3⟩ => ⟨x, h, dx, sl, wl, e _ _ h1, dq_ex e h2, dq_ex e h3⟩⟩
def keysD (Pl : Plm) (n : Nat) : PyData := .list ((List.range n).map fun i => keyP (sitAt Pl i))
def saidD (Pl : Plm) (n : Nat) : PyData := .list ((List.range n).map fun i => wordsD (wordsAt Pl i))
section
variable {m : Fm} {K : PySem.W.Frag} {Γ : List En} {ta : TE} {C : Addr} {Pl : Plm} {b l : Nat}
theorem eg_begin (ha : EG m Γ ta (RunF K C Pl b l)) (hc : Cls K C) (hn : NoAttr K C "begin") : EG m Γ (tFld K ta "begin") (Dd K (.int (b : Int))) := eg_fld ha fun F v ⟨x, e, dx, sl, wl, h1, h2, h3⟩ => ⟨x, C, dx, _, _, e, h1, hc, hn, rfl, Dq.int _⟩
theorem eg_length (ha : EG m Γ ta (RunF K C Pl b l)) (hc : Cls K C) (hn : NoAttr K C "length") : EG m Γ (tFld K ta "length") (Dd K (.int (l : Int))) := eg_fld ha fun F v ⟨x, e, dx, sl, wl, h1, h2, h3⟩ => ⟨x, C, dx, _, _, e, h1, hc, hn, rfl, Dq.int _⟩
theorem eg_situations (ha : EG m Γ ta (RunF K C Pl b l)) (hc : Cls K C) (hn : NoAttr K C "situations") : EG m Γ (tFld K ta "situations") (Dd K (keysD Pl (b + l))) := eg_fld ha fun F v ⟨x, e, dx, sl, wl, h1, h2, h3⟩ => ⟨x, C, dx, _, _, e, h1, hc, hn, rfl, h2⟩
theorem eg_words (ha : EG m Γ ta (RunF K C Pl b l)) (hc : Cls K C) (hn : NoAttr K C "words") : EG m Γ (tFld K ta "words") (Dd K (saidD Pl (b + l))) := eg_fld ha fun F v ⟨x, e, dx, sl, wl, h1, h2, h3⟩ => ⟨x, C, dx, _, _, e, h1, hc, hn, rfl, h3⟩
theorem run_ins {f : Str} (h : List.lookup f [(("situations" : Str), V.non), ("words", .non), ("begin", .non), ("length", .non)] = none) : InsAt (RunF K C Pl b l) C f := fun F v ⟨x, e, dx, sl, wl, h1, h2, h3⟩ => by
  refine ⟨x, dx, _, e, h1, ?_⟩
  simp only [List.lookup] at h ⊢
  split at h <;> try (cases h)
  split at h <;> try (cases h)
  split at h <;> try (cases h)
  split at h <;> try (cases h)
  simp [*]
end
end SB

set_option maxHeartbeats 4000000
namespace PySem
open Sem (wp)
set_option maxHeartbeats 4000000 in
theorem meets_enumerate_newB1 {v : Value} {o : Obj} {H : Heap → Prop} (B : Begins v o H) :
    Meets (Builtin.«enumerate.__new__» ⟨[.type "enumerate", v], []⟩) (fun _ R s => H s.heap ∧
      R (.ok (.ret (.ref (s.heap.push o).objs.size))) { s with heap := (s.heap.push o).push { cls := .type "enumerate", data := .fields #[.none, .bool false, .ref s.heap.objs.size, rawInt 0, .none, .none] } }) :=
  .of_wp fun prog w A R s h => by
    obtain ⟨hp, g, d, tk, os⟩ := s; obtain ⟨h1, h⟩ := h
    have hsub := sub_enumerate
    have q1 : ∀ {A' : Around} {E : Value → Shared → Prop} {Q : Value → Shared → Prop}, Q (.ref hp.objs.size) ⟨hp.push o, g, d, tk, os⟩ → wpAny (model prog w) A' (pyIter v) Q E ⟨hp, g, d, tk, os⟩ :=
      fun q => B.iter prog w _ _ ⟨hp, g, d, tk, os⟩ _ h1 q
    wp_walk using q1
    refine wpAny_stack_any fun st => wpAny_pure ?_
    split
    · rename_i c _ _ _ _ _
      cases (c == Value.type "enumerate")
      · wp_walk using q1
        exact ⟨_, rfl, h⟩
      · wp_walk using q1
        exact ⟨_, rfl, h⟩
    · wp_walk using q1
      exact ⟨_, rfl, h⟩
section
variable {prog : Program} {w : World} {A : Around} {E : Value → Shared → Prop} {s : Shared}
/-- enumerate(v): its two new cells -/
theorem enum_begins1 {v : Value} {o : Obj} {H : Heap → Prop} {Q : Value → Shared → Prop} (B : Begins v o H) (h1 : H s.heap)
    (h : ∀ h', IsEnum h' (s.heap.objs.size + 1) s.heap.objs.size 0 .none → h'.get? s.heap.objs.size = some o → h'.objs.size = s.heap.objs.size + 2 →
      (∀ b o, s.heap.get? b = some o → h'.get? b = some o) → Q (.ref (s.heap.objs.size + 1)) { s with heap := h' }) :
    wpAny (model prog w) A (call (.type "enumerate") [v]) Q E s := by
  refine callType_new F.called_enumerate (by decide) (F.typeCall_enumerate_1 _) (F.newCall_enumerate_1 _) (fun obj => F.args_object_init_2 obj _) F.entry_enumerate_new
    (meets_enumerate_newB1 B) ⟨h1, ?_⟩
  have hz : (s.heap.push o).objs.size = s.heap.objs.size + 1 := Heap.size_push ..
  show _ ∧ _
  rw [hz]
  have he : IsEnum ((s.heap.push o).push { cls := .type "enumerate", data := .fields #[.none, .bool false, .ref s.heap.objs.size, rawInt 0, .none, .none] }) (s.heap.objs.size + 1) s.heap.objs.size 0 .none := by
    have := Heap.get?_push_size (s.heap.push o) (o := { cls := .type "enumerate", data := .fields #[.none, .bool false, .ref s.heap.objs.size, rawInt 0, .none, .none] }) rfl
    rw [hz] at this; exact this
  refine ⟨⟨_, he, rfl⟩, h _ he (Heap.get?_push_of_some _ (Heap.get?_push_size _ B.free)) (by rw [Heap.size_push, hz]) fun b o x => Heap.get?_push_of_some _ (Heap.get?_push_of_some _ x)⟩
end
end PySem
namespace SB
open PySem PySem.Spec PyProof.Rows L2
open TL (tl)
open Evl
/-- the tuple at a, each item in a new pair -/
def Iteu (K : PySem.W.Frag) (a : Addr) : It :=
  ⟨fun i H => ∃ (xs : List V) (x : V), SqT K H a xs ∧ xs[i]? = some x, fun i H v H' => ∃ T x, v = .ref T ∧ H T = none ∧ H' = upd H T (.tup [.int (i : Nat), x]) ∧ ∀ xs, SqT K H a xs → xs[i]? = some x, fun i H => ∃ xs : List V, SqT K H a xs ∧ xs.length = i⟩
theorem turn_enumT {P : Program} {w : World} {K : PySem.W.Frag} {elts : List Expr} {kk : Nat} {tpos : Pos} (a e it : Addr) :
    Turn P w K (.Tuple elts kk tpos) (Iteu K a) [e, it] e (fun i h => (∃ old, IsEnum h e it ((i : Nat) : Int) old) ∧ h.IsTupleIter it a i ∧ e ≠ it) where
  mem := by simp
  obj := fun i h st b hb => by
    obtain ⟨⟨old, he⟩, ⟨o, ho, hc, hd⟩, _⟩ := st
    have e' : b = e ∨ b = it := by simpa using hb
    rcases e' with z | z
    · rw [z]; exact ⟨_, he, fun v q => nomatch q⟩
    · rw [z]; exact ⟨o, ho, fun v q => by rw [hd] at q; cases q⟩
  keep := fun i h h' st k => let ⟨⟨old, he⟩, hi, hne⟩ := st; ⟨⟨old, k e (by simp) _ he⟩, hi.at fun o q => k it (by simp) o q, hne⟩
  item := by
    intro X hP hw hK hc i pins s σ H E I hf st hg
    subst hP hw hK
    obtain ⟨⟨old, he⟩, hit, hne⟩ := st
    obtain ⟨xs, x, hq, hx⟩ := hg
    obtain ⟨its, rv, p, hz⟩ := I.tuple hq
    obtain ⟨u, hu, ru⟩ := rv.get hx
    have p : s.heap.IsTuple a its.toArray := p
    have hel : e < s.heap.objs.size := Heap.lt_size he
    have hil : it < s.heap.objs.size := by obtain ⟨_, q, _⟩ := hit; exact Heap.lt_size q
    have hai : a ≠ it := fun z => by
      obtain ⟨o1, q1, c1, _⟩ := hit
      obtain ⟨o2, q2, c2, _⟩ := p
      rw [z, q1] at q2
      cases q2
      rw [c1] at c2
      revert c2
      decide
    have hea : e ≠ a := fun z => by
      obtain ⟨o2, q2, c2, _⟩ := p
      rw [← z] at q2
      have he' := he
      unfold IsEnum at he'
      rw [he'] at q2
      cases q2
      have c3 : Value.type "enumerate" = Value.type "tuple" := c2
      revert c3
      decide
    refine wpAny_pyNext_enum_itemD (Draws.tuple (A := X.A.in1) (I.ok.hd hc) it a hai its.toArray) he ⟨hit, p⟩ (by have := (List.getElem?_eq_some_iff.mp hu).1; simpa using this) hne (by simp [hne, hea]) fun x' h' tk hPx ho hst' hT hsz hk => ?_
    obtain rfl : x' = u := by
      have : its[i]? = some x' := by simpa using hPx
      rw [hu] at this
      exact (Option.some.inj this).symm
    refine ⟨_, rfl, wpAny_letOwnedTupleGo_enum (s := { s with heap := h', toks := tk + 1 }) ho fun h'' he' sb => ?_⟩
    have hT2 : h''.get? s.heap.objs.size = some { cls := .type "tuple", data := .seq #[.int i tk, x'] } := (sb.2 _ (Nat.ne_of_gt hel)).trans hT
    have new : ObjOk X.prog X.w (upd H s.heap.objs.size (.tup [.int (i : Nat), x])) h'' s.heap.objs.size (.tup [.int (i : Nat), x]) :=
      ⟨by show 2 ≤ sizeLine; decide, [.int i tk, x'], .cons ⟨_, rfl⟩ (.cons ru .nil), ⟨_, hT2, rfl, _, rfl⟩⟩
    have I1 : Inv X pins σ (upd H s.heap.objs.size (.tup [.int (i : Nat), x])) { s with heap := h'', toks := tk + 1 } :=
      I.turnedNew (ch := [e, it]) (fun b ob hb q => (sb.2 b (fun z => hb (by simp [z]))).trans (hk b ob (fun z => hb (by simp [z])) (fun z => hb (by simp [z])) q)) hf (Nat.le_refl _) new
    refine ⟨.ref s.heap.objs.size, _, I1, rfl, ⟨_, x, rfl, I.hok.fresh (Nat.le_refl _), rfl, fun ys hy => by rw [I.tuple_inj hy hq]; exact hx⟩, ⟨⟨x', ?_⟩, hst'.1.at fun o q => (sb.2 it (Ne.symm hne)).trans q, hne⟩, fun b hb => ?_⟩
    · have e1 : ((i + 1 : Nat) : Int) = (i : Int) + 1 := by omega
      rw [e1]; exact he'
    · have hb' : b < s.heap.objs.size := by
        have e' : b = e ∨ b = it := by simpa using hb
        rcases e' with z | z
        · rw [z]; exact hel
        · rw [z]; exact hil
      rw [upd_ne (Nat.ne_of_lt hb')]
      exact (hf b hb).1
  done := by
    intro X hP hw hK hc i pins s σ H E I hf st hg
    subst hP hw hK
    obtain ⟨⟨old, he⟩, hit, hne⟩ := st
    obtain ⟨xs, hq, hx⟩ := hg
    obtain ⟨its, rv, p, hz⟩ := I.tuple hq
    have p : s.heap.IsTuple a its.toArray := p
    obtain ⟨f0, f1, f2, f3, f4, f5⟩ := hf it (by simp)
    have hl := rv.length
    have hai : a ≠ it := fun z => by
      obtain ⟨o1, q1, c1, _⟩ := hit
      obtain ⟨o2, q2, c2, _⟩ := p
      rw [z, q1] at q2
      cases q2
      rw [c1] at c2
      revert c2
      decide
    have hn : its.toArray.size = i := by
      rw [List.size_toArray, ← hx]
      exact hl.symm
    exact wpAny_pyNext_enum_endD (Draws.tuple (A := X.A.in1) (I.ok.hd hc) it a hai its.toArray) he ⟨by rw [hn]; exact hit, p⟩ fun h' eb => ⟨rfl, I.turned (t' := s.toks) (fun b o hb q => eb b o hb q) f0 f1 f3 f4 f5⟩
  self := fun A i s Q E st h => let ⟨⟨_, he⟩, _⟩ := st; wpAny_pyIter_enum he h
def iEnumT (K : PySem.W.Frag) (ta : TA) : TI := fun σ H R => ta σ H fun vs H1 => ∃ a xs, vs = [.ref a] ∧ SqT K H1 a xs ∧ R (Iteu K a) H1
theorem pi_enumT {X : Cx} {e : Expr} {ta : TA} {p pos tpos : Pos} {elts : List Expr} {kk : Nat} (hg : Gl X "enumerate") (hm : X.mg "enumerate" = none) (ha : PA X [e] ta) (hs : starEach [e] X.env = [(false, eval e X.env)] := by rfl) :
    PI X (.Tuple elts kk tpos) (.Call (.Name "enumerate" p) [e] [] pos) (iEnumT X.K ta) := by
  refine ⟨fun pins s σ H R I h => ?_⟩
  refine Call_ (ld_blt I hg hm boot_enumerate (PyProof.Rows.callWith_type1 (thn (ha.run pos pins s σ H _ I h) fun us s1 ⟨vs, H1, I1, r1, q1⟩ => ?_) hs rfl))
  obtain ⟨a, xs, ex, hq, q⟩ := q1
  subst ex
  cases r1 with
  | cons r rr =>
    cases rr
    cases r
    obtain ⟨its, rv, p', hz⟩ := I1.tuple hq
    refine enum_begins1 (begins_tuple a its.toArray) (show s1.heap.IsTuple a its.toArray from p') fun h' he hit hsz hk => wpAny_pyIter_enum he ?_
    have I2 : Inv X pins σ H1 { s1 with heap := h' } := I1.kept (t' := s1.toks) hk
    refine ⟨s1.heap.objs.size + 1, [s1.heap.objs.size + 1, s1.heap.objs.size], _, _, H1, rfl, I2, turn_enumT a (s1.heap.objs.size + 1) s1.heap.objs.size, ⟨⟨.none, he⟩, ⟨_, hit, rfl, rfl⟩, Nat.succ_ne_self _⟩, fun b hb => ?_, q⟩
    have e' : b = s1.heap.objs.size + 1 ∨ b = s1.heap.objs.size := by simpa using hb
    have hle : s1.heap.objs.size ≤ b := by
      rcases e' with z | z
      · rw [z]; exact Nat.le_add_right _ _
      · rw [z]; exact Nat.le_refl _
    exact I1.fpOk hle (I1.hok.fresh hle)
theorem walk_enumT {K : PySem.W.Frag} {a : Addr} {xs : List V} : Walk (Iteu K a) xs.length (fun H => SqT K H a xs) (YPair (fun i => some (.int (i : Nat))) (fun i => xs[i]?)) := by
  refine ⟨fun i _ hi q => ⟨xs, xs[i], q, by simp [hi]⟩, fun _ q => ⟨xs, q, rfl⟩, fun i H v H' _ q y => ?_⟩
  obtain ⟨T, x, h1, h2, h3, h4⟩ := y
  exact ⟨T, .int (i : Nat), x, h1, h2, h3, rfl, h4 xs q⟩
section
variable {m : Fm} {K : PySem.W.Frag} {Γ : List En}
theorem it_enumT {ta : TA} {φs : List FP} (h : AG m Γ ta [.fx (TupF K φs)]) : IT m Γ (iEnumT K ta) (enumF K φs) := ⟨fun F H σ E R k => h F H σ E _ fun vs F1 H1 x E1 p => by
  obtain ⟨v, rfl, a, ws, e, hs, al⟩ := ags1 p
  subst e
  refine ⟨a, ws, rfl, st_of (E1.fh _ _ hs), k (Iteu K a) (fun H => SqT K H a ws) (YPair (fun i => some (.int (i : Nat))) (fun i => ws[i]?)) F1 H1 x E1 (by rw [enumF_len, ← al_len al]; exact walk_enumT) (fun F' H' a b => st_of ((a.trans b) _ _ hs)) fun i ψ x F' H2 H2' hi a b y => ?_⟩
  obtain ⟨T, y, z, e1, e2, e3, e4, e5⟩ := y
  obtain ⟨φ, hφ, rfl⟩ := enumF_of hi
  cases e4
  obtain ⟨φ', h1, h2⟩ := al_getF al e5
  rw [hφ] at h1
  cases h1
  exact pair_new b (Dq.int _) (φ.mono a h2) e1 e2 e3⟩
end
theorem filterMap_if {α : Type} (p : Nat → Bool) (f : Nat → α) : ∀ l : List Nat, l.filterMap (fun i => if p i = true then some (f i) else none) = (l.filter p).map f
  | [] => rfl
  | a :: r => by
    by_cases h : p a = true
    · rw [List.filterMap_cons_some (b := f a) (by rw [if_pos h]), List.filter_cons_of_pos h, List.map_cons, filterMap_if p f r]
    · rw [List.filterMap_cons_none (by rw [if_neg h]), List.filter_cons_of_neg h, filterMap_if p f r]
theorem bools_get {K : PySem.W.Frag} {l : List Bool} {i : Nat} {φ : FP} (h : ((boolsD l).map (Dd K))[i]? = some φ) : i < l.length ∧ φ = Dd K (.bool (atB l i)) := by
  unfold boolsD at h
  rw [List.map_map, List.getElem?_map] at h
  obtain ⟨b, hb, e⟩ := Option.map_eq_some_iff.mp h
  have hi := (List.getElem?_eq_some_iff.mp hb).1
  refine ⟨hi, ?_⟩
  rw [atB_get hi] at hb
  rw [← Option.some.inj hb] at e
  exact e.symm
end SB

set_option maxHeartbeats 4000000
namespace SB
open PySem PySem.Spec PyProof.Rows L2
open TL (tl)
open Evl
/-- xs.count(w), texts -/
def rCntS (K : PySem.W.Frag) : V → List V → Hp → VK → Prop := fun x xs H Q => ∃ (p : Addr) (ws : List Str) (z : Str), x = .ref p ∧ xs = [.str z] ∧ SqL K H p (ws.map V.str) ∧ Q (.int (ws.count z : Nat)) H
theorem reads_strs {h : Heap} : ∀ {ws : List Str} {us : List Value}, Vals (ws.map V.str) us → ReadsAll h us (ws.map PyData.str) []
  | [], _, .nil => .nil
  | w :: ws, _, .cons r t => by
    obtain ⟨k, rfl⟩ := r
    exact .cons (as := []) (.str w k) (reads_strs t)
theorem count_strs (z : Str) : ∀ ws : List Str, (ws.map PyData.str).countP (fun y => PyData.eqv y (.str z)) = ws.count z
  | [] => rfl
  | w :: ws => by
    rw [List.map_cons, List.countP_cons, count_strs z ws, List.count_cons]
    rfl
theorem plain_strs : ∀ ws : List Str, PyData.plainAll (ws.map PyData.str) = true
  | [] => rfl
  | w :: ws => by
    show (PyData.plain (.str w) && PyData.plainAll (ws.map PyData.str)) = true
    rw [plain_strs ws]
    rfl
theorem mt_lcountS {X : Cx} (hu : X.A.units + 64 < cLine) : MtR X "list.count" (rCntS X.K) := by
  intro pins s σ H x xs v us Q I rx rxs h
  obtain ⟨p, ws, z, rfl, rfl, hs, q⟩ := h
  cases rx
  obtain ⟨u, rfl, ru⟩ := rxs.one
  obtain ⟨t, rfl⟩ := ru
  obtain ⟨its, rv, pl, hlen⟩ := I.list hs
  refine PySem.SeqAt.count_list_data (xs := ws.map PyData.str) (d := .str z) (as := []) (bs := []) pl.isList (by simpa using reads_strs rv) (.str z t) (plain_strs ws) rfl (by
    have : min (PyData.depthAll (ws.map PyData.str)) (PyData.depth (.str z)) ≤ PyData.depth (.str z) := Nat.min_le_right _ _
    have e : PyData.depth (.str z) ≤ 1 := by simp [PyData.depth]
    exact Nat.lt_of_le_of_lt (Nat.add_le_add_left (Nat.le_trans this e) _) (by omega)) ?_
  rw [count_strs]
  exact ⟨.int (ws.count z : Nat), H, I.tok _, ⟨s.toks, rfl⟩, q⟩
section
variable {m : Fm} {K : PySem.W.Frag} {Γ : List En} {ta tb te : TE} {t : TA} {φ ψ : FP}
def strsD (ws : List Str) : PyData := .list (ws.map .str)
theorem eg_lcount {ws : List Str} {z : Str} (ha : EG m Γ ta (Dd K (strsD ws))) (hb : EG m Γ tb (Dd K (.str z))) : EG m Γ (tBM K "list" (rCntS K) ta (tCons tb tNil)) (Dd K (.int (ws.count z : Nat))) := fun F H σ E Q q => ha F H σ E _ fun v F1 H1 x1 E1 p1 => by
  obtain ⟨p, vs, e, hp, al⟩ := dp_lst p1
  rw [List.map_map] at al
  have al := al_strs al
  subst e al
  exact ⟨Or.inl ⟨rfl, _, sq_of (E1.fh _ _ hp)⟩, hb F1 H1 σ E1 _ fun w F2 H2 x2 E2 p2 => ⟨p, ws, z, rfl, by rw [dd_str p2], sq_of (E2.fh _ _ (x2.f _ _ hp)), q _ F2 H2 (x1.trans x2) E2 (Dq.int _)⟩⟩
/-- xs[lo:hi] -/
def OG (m : Fm) (Γ : List En) (to : TO) (o : Option Int) : Prop := ∀ F H σ, GE m F H σ Γ → ∀ Q : Option Int → Hp → Prop, (∀ F1 H1, XF m F H F1 H1 → GE m F1 H1 σ Γ → Q o H1) → to σ H Q
theorem og_no : OG m Γ tNoPart none := fun F H σ E Q q => q F H XF.refl E
theorem og_int {i : Int} (h : EG m Γ te (Dd K (.int i))) : OG m Γ (tPart te) (some i) := fun F H σ E Q q => h F H σ E _ fun v F1 H1 x1 E1 p => ⟨i, dd_int p, q F1 H1 x1 E1⟩
def cutD (ds : List PyData) (lo hi : Option Int) : List PyData := (ds.drop (HT.sIx ds.length 0 lo)).take (HT.sIx ds.length ds.length hi - HT.sIx ds.length 0 lo)
theorem dqAll_drop {F : Hp} : ∀ {vs : List V} {ds : List PyData} (n : Nat), DqAll K F vs ds → DqAll K F (vs.drop n) (ds.drop n)
  | _, _, 0, h => h
  | _, _, n + 1, .nil => .nil
  | _, _, n + 1, .cons _ t => dqAll_drop n t
theorem dqAll_take {F : Hp} : ∀ {vs : List V} {ds : List PyData} (n : Nat), DqAll K F vs ds → DqAll K F (vs.take n) (ds.take n)
  | _, _, 0, h => .nil
  | _, _, n + 1, .nil => .nil
  | _, _, n + 1, .cons h t => .cons h (dqAll_take n t)
theorem dqAll_len {F : Hp} : ∀ {vs : List V} {ds : List PyData}, DqAll K F vs ds → vs.length = ds.length
  | _, _, .nil => rfl
  | _, _, .cons _ t => congrArg (· + 1) (dqAll_len t)
theorem eg_slL {ds : List PyData} {tl th : TO} {lo hi : Option Int} (ha : EG m Γ ta (Dd K (.list ds))) (h1 : OG m Γ tl lo) (h2 : OG m Γ th hi) : EG m Γ (tSl (rSlL K) ta tl th) (Dd K (.list (cutD ds lo hi))) := fun F H σ E Q q => ha F H σ E _ fun v F1 H1 x1 E1 p1 =>
  h1 F1 H1 σ E1 _ fun F2 H2 x2 E2 => h2 F2 H2 σ E2 _ fun F3 H3 x3 E3 => by
  have p1 : Dq K F1 v (.list ds) := p1
  cases p1 with
  | lst hp al =>
    refine ⟨_, _, rfl, sq_of (E3.fh _ _ ((x2.f.trans x3.f) _ _ hp)), fun p hn => ?_⟩
    obtain ⟨E4, e4⟩ := E3.new (o := .lst (cutV _ lo hi)) (Ex.new hn) hn upd_same
    refine q _ _ _ (((x1.trans x2).trans x3).trans (XF.new hn (fresh_F E3 hn) (Ex.new hn))) E4 (Dq.lst upd_same ?_)
    have al' := dqAll_ex ((x2.f.trans x3.f).trans e4) al
    have := dqAll_take (HT.sIx ds.length ds.length hi - HT.sIx ds.length 0 lo) (dqAll_drop (HT.sIx ds.length 0 lo) al')
    rw [← dqAll_len al] at this
    unfold cutD
    rw [← dqAll_len al]
    exact this
theorem eg_divmod {i j : Int} (h : AG m Γ t [.fx (Dd K (.int i)), .fx (Dd K (.int j))]) (c : CDiv i j) : EG m Γ (tCB (fun xs H Q => ∃ i j, xs = [.int i, .int j] ∧ CDiv i j ∧ ∀ p, H p = none → Q (.ref p) (upd H p (.tup [.int (i / j), .int (i % j)]))) t) (Dd K (.tuple [.int (i / j), .int (i % j)])) := fun F H σ E Q q => h F H σ E _ fun vs F1 H1 x1 E1 p1 => by
  obtain ⟨v, w, rfl, h1, h2⟩ := ags2 p1
  refine ⟨i, j, by rw [dd_int h1, dd_int h2], c, fun p hn => ?_⟩
  obtain ⟨E4, e4⟩ := E1.new (o := .tup [.int (i / j), .int (i % j)]) (Ex.new hn) hn upd_same
  exact q _ _ _ (x1.trans (XF.new hn (fresh_F E1 hn) (Ex.new hn))) E4 (Dq.tup upd_same (.cons (.int _) (.cons (.int _) .nil)))
end
end SB

set_option maxHeartbeats 4000000
namespace SB
open PySem PySem.Spec PyProof.Rows L2
open TL (tl)
open Evl
def wordOf (P : Plm) (r i : Nat) : Str := if r = 0 then (wordsAt P i).1 else (wordsAt P i).2
/-- how often robot r does w in the first n ticks -/
def countM (P : Plm) (r : Nat) (w : Str) (n : Nat) : Nat := ((List.range n).map (wordOf P r)).count w
section
variable (f : Nat → Str) (w : Str)
def cnt (n : Nat) : Nat := ((List.range n).map f).count w
theorem cnt_add (a k : Nat) : cnt f w (a + k) = cnt f w a + cnt (fun i => f (a + i)) w k := by
  unfold cnt
  rw [List.range_add, List.map_append, List.count_append, List.map_map]
  rfl
theorem cnt_rounds {b l : Nat} (hf : ∀ q k, f (b + (k + q * l)) = f (b + k)) : ∀ q, cnt f w (b + q * l) = cnt f w b + q * cnt (fun i => f (b + i)) w l
  | 0 => by simp
  | q + 1 => by
    have e : (fun i => f (b + q * l + i)) = fun i => f (b + i) := by
      funext i
      rw [show b + q * l + i = b + (i + q * l) by omega]
      exact hf q i
    rw [show b + (q + 1) * l = b + q * l + l by rw [Nat.add_mul]; omega, cnt_add, cnt_rounds hf q, e, Nat.add_mul]
    omega
theorem cnt_all {b l : Nat} (hf : ∀ q k, f (b + (k + q * l)) = f (b + k)) (q k : Nat) : cnt f w (b + q * l + k) = cnt f w b + q * cnt (fun i => f (b + i)) w l + cnt (fun i => f (b + i)) w k := by
  have e : (fun i => f (b + q * l + i)) = fun i => f (b + i) := by
    funext i
    rw [show b + q * l + i = b + (i + q * l) by omega]
    exact hf q i
  rw [cnt_add, cnt_rounds f w hf q, e]
end
theorem Cyc.word {P : Plm} {b l : Nat} (c : Cyc P b l) (r q k : Nat) : wordOf P r (b + (k + q * l)) = wordOf P r (b + k) := by
  unfold wordOf wordsAt
  rw [c.turn q k]
theorem Cyc.bound {P : Plm} {b l n : Nat} (c : Cyc P b l) (h : Repeats P n) : b + l ≤ n := by
  obtain ⟨i, j, ij, jn, e⟩ := h
  have : ¬ j < b + l := fun z => c.new i j ij z e
  omega
theorem range_take (f : Nat → Str) {n k : Nat} (h : k ≤ n) : ((List.range n).map f).take k = (List.range k).map f := by
  rw [← List.map_take, List.take_range, Nat.min_eq_left h]
theorem range_drop (f : Nat → Str) (b l : Nat) : ((List.range (b + l)).map f).drop b = (List.range l).map fun i => f (b + i) := by
  rw [List.range_add, List.map_append, List.drop_left' (by simp), List.map_map]
  rfl
theorem cut_hi {ws : List Str} {n : Nat} (h : n ≤ ws.length) : cutD (ws.map PyData.str) none (some (n : Int)) = (ws.take n).map .str := by
  unfold cutD
  rw [HT.sIx_none, HT.sIx_nat, List.length_map, Nat.min_eq_left h, Nat.sub_zero, List.drop_zero, List.map_take]
theorem cut_lo {ws : List Str} {n : Nat} (h : n ≤ ws.length) : cutD (ws.map PyData.str) (some (n : Int)) none = (ws.drop n).map .str := by
  unfold cutD
  rw [HT.sIx_none, HT.sIx_nat, List.length_map, Nat.min_eq_left h, List.take_of_length_le (by simp), List.map_drop]
def PhCount (K : PySem.W.Frag) (C : Addr) (as : List En) (ψ : FP) : Prop := ∃ Pl b l r w n, Cyc Pl b l ∧ b + l ≤ 20000 ∧ r < 2 ∧ n ≤ 1000000000000000000 ∧ as = [.fx (RunF K C Pl b l), .fx (Dd K (iD r)), .fx (Dd K (.str w)), .fx (Dd K (iD n))] ∧ ψ = Dd K (iD (countM Pl r w n))
section
variable {m : Fm} {K : PySem.W.Frag} {Γ : List En} {t : TA} {ψ : FP} {es : List En} {XE : XK}
theorem eg_callE {α : Type} {R : α → Prop} {g : α → FP} {Φ : List En → FP → Prop} (h : AG m Γ t (.fx (FP.ex R g) :: es)) (hΦ : ∀ a, R a → Φ (.fx (g a) :: es) ψ) : EG m Γ (tCallR (spG Φ) XE t) ψ := fun F H σ E Q q => h F H σ E _ fun vs F1 H1 x1 E1 p1 => by
  cases p1 with
  | cons p t1 =>
    obtain ⟨a, ra, p⟩ := p
    refine ⟨⟨F1, H1, m.M⟩, .fx (g a) :: es, ψ, hΦ a ra, rfl, .cons p (Paired.mapP t1 (fun v e r => by cases e <;> exact r)), ge_call E1, fun v F' H' σ' Γ' E' p => ?_⟩
    obtain ⟨E2, x2⟩ := ge_ret E1 E'
    exact q v F' H' (x1.trans x2) E2 p
end
/-- the first item of a log that is not what both robots do -/
def errM (P : Plm) (ws : List (Str × Str)) : Option Nat := (List.range ws.length).find? fun i => decide (ws[i]? ≠ some (wordsAt P i))
def optD : Option Nat → PyData
  | none => .none
  | some i => iD i
def WOk (a : Str × Str) : Prop := PyData.canLay0 (.str a.1) = true ∧ PyData.canLay0 (.str a.2) = true
theorem shaped_words {a : Str × Str} (h : WOk a) : SeqAt.shaped (wordsD a) = true := by
  obtain ⟨h1, h2⟩ := h
  unfold SeqAt.shaped wordsD
  rw [Bool.and_eq_true_iff]
  refine ⟨?_, ?_⟩
  · show (PyData.canLay0 (.str a.1) && (PyData.canLay0 (.str a.2) && true)) = true
    rw [h1, h2]
    rfl
  · simp [PyData.depth, PyData.depthAll]
theorem act_word {P : Plm} (hP : PlanOk P) {S : Sit} (h : SitOk P S) {r : Nat} (hr : r < 2) : (actM P S r).1 ∈ (("blocked" : Str) :: commands) := by
  unfold actM
  split
  · exact List.mem_cons_self ..
  · exact List.mem_cons_of_mem _ ((hP.ls r).cmd _ (step_mem h hr))
theorem lay_words : ∀ w ∈ (("blocked" : Str) :: commands), PyData.canLay0 (.str w) = true := by decide +kernel
theorem words_ok {P : Plm} (hP : PlanOk P) (n : Nat) : WOk (wordsAt P n) := by
  have h := sitAt_ok hP n
  exact ⟨lay_words _ (act_word hP h (r := 0) (by decide)), lay_words _ (act_word hP (act_ok hP h (r := 0) (by decide)) (r := 1) (by decide))⟩
theorem eqv_words (a b : Str × Str) : PyData.eqv (wordsD a) (wordsD b) = decide (a = b) := by
  obtain ⟨a1, a2⟩ := a
  obtain ⟨b1, b2⟩ := b
  show ((a1 == b1) && ((a2 == b2) && true)) = _
  rw [Bool.and_true]
  by_cases h1 : a1 = b1
  · by_cases h2 : a2 = b2
    · subst h1 h2
      simp
    · simp [h1, h2]
  · simp [h1]
theorem errM_some {P : Plm} {ws : List (Str × Str)} {i : Nat} (hi : i < ws.length) (h : ∀ j, j < i → ws[j]? = some (wordsAt P j)) (hn : ws[i]? ≠ some (wordsAt P i)) : errM P ws = some i := by
  unfold errM
  rw [List.find?_range_eq_some]
  exact ⟨decide_eq_true hn, List.mem_range.mpr hi, fun j hj => by rw [decide_eq_false (by rw [h j hj]; simp)]; rfl⟩
theorem errM_none {P : Plm} {ws : List (Str × Str)} (h : ∀ j, j < ws.length → ws[j]? = some (wordsAt P j)) : errM P ws = none := by
  unfold errM
  rw [List.find?_eq_none]
  intro j hj
  rw [decide_eq_false (by rw [h j (List.mem_range.mp hj)]; simp)]
  simp
section
variable {m : Fm} {K : PySem.W.Frag} {Γ : List En} {ta : TE}
/-- x in C, C a tuple of the program -/
theorem eg_inC {neg : Bool} {d : PyData} {x : V} {xs : List V} {a : Addr} (ha : EG m Γ ta (Dd K d)) (hc : ∀ H, SqT K H a xs) (e1 : scD d = some x) (hx : flatV x = true) (hf : xs.all flatV = true) : EG m Γ (tOp (rIn K neg) ta (tC (.ref a))) (Dd K (.bool (if neg then !inV x xs else inV x xs))) :=
  eg_op (φ2 := ⟨fun _ v => v = .ref a, fun _ h => h⟩) ha (eg_c fun _ => rfl) fun F H y z e' p1 p2 => by
    have p2 : z = .ref a := p2
    subst p2
    rw [scD_v e1 p1]
    exact ⟨_, Dq.bl _, rv_inT (hc H) hx hf⟩
/-- len(C), C a tuple of the program -/
theorem eg_lenC {xs : List V} {a : Addr} (hc : ∀ H, SqT K H a xs) : EG m Γ (tCB (rLenS K) (tCons (tC (.ref a)) tNil)) (Dd K (.int xs.length)) := fun F H σ E Q q => ⟨a, xs, rfl, .inr (hc H), q _ _ _ XF.refl E (.int _)⟩
theorem s_dropG {φ : FP} {po : Po} (h : EG m Γ ta φ) (k : po.nx Γ) : SG m Γ (tDrop ta) po := fun F H σ E D q => h F H σ E _ fun v F1 H1 x E1 p => q.nx σ F1 H1 Γ x.f E1 k
end
end SB

set_option maxHeartbeats 4000000
namespace SB
open PySem PySem.Spec PyProof.Rows L2
open TL (tl)
open Evl
section
variable {m : Fm} {K : PySem.W.Frag} {Γ : List En} {ta tb te : TE} {φ ψ : FP} {XE : XK}
/-- a number below n -/
def LtF (K : PySem.W.Frag) (n : Nat) : FP := FP.ex (fun r : Nat => r < n) fun r => Dd K (iD r)
theorem eg_draw {i lim : Nat} (hi : Γ[i]? = some .dr) (hb : EG m Γ tb (Dd K (iD lim))) (h0 : 0 < lim) (h1 : lim < 1000001) : EG m Γ (tCallR spBelow XE (tCons (tVar i) (tCons tb tNil))) (LtF K lim) := eg_below hi hb h0 h1
/-- one of a list -/
theorem eg_pick {ds : List PyData} {n : Nat} (ha : EG m Γ ta (Dd K (.list ds))) (hb : EG m Γ tb (LtF K n)) (hn : n ≤ ds.length) : EG m Γ (tOp (rIxL K) ta tb) (FP.ex (fun d => d ∈ ds) fun d => Dd K d) :=
  eg_op (eg_le ha dp_lst) hb fun F H x y e ⟨p, vs, ex, hs, al⟩ ⟨r, hr, p2⟩ => by
    subst ex
    have p2 : Dq K F y (.int (r : Int)) := p2
    cases p2
    have hl := al_len al
    rw [List.length_map] at hl
    have hrl : r < vs.length := by omega
    obtain ⟨φ, h1, h2⟩ := al_getF al (List.getElem?_eq_getElem hrl)
    rw [List.getElem?_map] at h1
    obtain ⟨d, hd, e1⟩ := Option.map_eq_some_iff.mp h1
    subst e1
    exact ⟨vs[r], ⟨d, List.mem_of_getElem? hd, h2⟩, rv_ixL (i := (r : Int)) (sq_of (e _ _ hs)) (at_nat' (List.getElem?_eq_getElem hrl))⟩
/-- a + b, b one of many -/
theorem eg_addE {i : Int} {α : Type} {R : α → Prop} {g : α → Int} (ha : EG m Γ ta (Dd K (.int i))) (hb : EG m Γ tb (FP.ex R fun a => Dd K (.int (g a)))) : EG m Γ (tOp (rI0 fun i j => .int (i + j)) ta tb) (FP.ex R fun a => Dd K (.int (i + g a))) :=
  eg_op ha hb fun F H x y e p1 ⟨a, ra, p2⟩ => by
    rw [dd_int p1, dd_int p2]
    exact ⟨_, ⟨a, ra, Dq.int _⟩, rv_I0⟩
theorem ex_le {α β : Type} {R : α → Prop} {f : α → FP} {S : β → Prop} {g : β → FP} (h : α → β) (h1 : ∀ a, R a → S (h a) ∧ (f a).le (g (h a))) : (FP.ex R f).le (FP.ex S g) := fun {F v} ⟨a, ra, p⟩ => ⟨h a, (h1 a ra).1, (h1 a ra).2 p⟩
theorem ex_in {β : Type} {S : β → Prop} {g : β → FP} (b : β) (hb : S b) : (g b).le (FP.ex S g) := fun {F v} p => ⟨b, hb, p⟩
/-- a list whose items are one of many each -/
theorem al_ex {α : Type} {R : α → Prop} {f : α → FP} {F : Hp} : ∀ {n : Nat} {vs : List V}, Al F vs (List.replicate n (FP.ex R f)) → ∃ l : List α, l.length = n ∧ (∀ a ∈ l, R a) ∧ Al F vs (l.map f)
  | 0, _, .nil => ⟨[], rfl, fun _ h => (by cases h), .nil⟩
  | n + 1, v :: vs, .cons ⟨a, ra, p⟩ t => by
    obtain ⟨l, h1, h2, h3⟩ := al_ex (n := n) t
    exact ⟨a :: l, congrArg (· + 1) h1, fun b hb => by
      rcases List.mem_cons.mp hb with h | h
      · rw [h]; exact ra
      · exact h2 b h, .cons p h3⟩
theorem lst_ex {α : Type} {R : α → Prop} {D : α → PyData} {n : Nat} : (LstF K (List.replicate n (FP.ex R fun a => Dd K (D a)))).le (FP.ex (fun l : List α => l.length = n ∧ ∀ a ∈ l, R a) fun l => Dd K (.list (l.map D))) := fun {F v} ⟨p, vs, e, hs, al⟩ => by
  obtain ⟨l, h1, h2, h3⟩ := al_ex al
  refine ⟨l, ⟨h1, h2⟩, ?_⟩
  subst e
  exact Dq.lst hs (al_dp (by rw [List.map_map]; exact h3))
end
/-- a step of a law's plan of n steps -/
def StepR (n : Nat) (s : Lk) : Prop := s.1 ∈ commands ∧ s.2.isSome = decide (s.1 ∈ jumps) ∧ ∀ t, s.2 = some t → t < n
def StepF (K : PySem.W.Frag) (n : Nat) : FP := FP.ex (StepR n) fun s => Dd K (stepD s)
theorem stepsR_ok {n : Nat} {l : List Lk} (h1 : 1 ≤ n) (h2 : n ≤ 20) (hl : l.length = n) (h : ∀ s ∈ l, StepR n s) : StepsOk l :=
  ⟨by omega, by omega, fun s hs => (h s hs).1, fun s hs t ht => by rw [hl]; exact (h s hs).2.2 t ht, fun s hs => (h s hs).2.1⟩
def PhSteps (K : PySem.W.Frag) (as : List En) (ψ : FP) : Prop := ∃ n : Nat, 1 ≤ n ∧ n ≤ 20 ∧ as = [.dr, .fx (Dd K (iD n))] ∧ ψ = FP.ex (fun l : List Lk => StepsOk l ∧ l.length ≤ max 4 n) fun l => Dd K (stepsD l)
section
variable {m : Fm} {K : PySem.W.Frag} {Γ : List En} {ta tb te : TE} {φ ψ : FP} {XE : XK}
theorem eg_drawE {i M : Nat} {S : Nat → Prop} (hi : Γ[i]? = some .dr) (hb : EG m Γ tb (FP.ex S fun l => Dd K (iD l))) (hS : ∀ l, S l → 0 < l ∧ l < 1000001 ∧ l ≤ M) : EG m Γ (tCallR spBelow XE (tCons (tVar i) (tCons tb tNil))) (LtF K M) := fun F H σ E Q q => by
  obtain ⟨w, hw, a, e, hM⟩ := E.slot i _ hi
  subst e
  refine ⟨_, hw, hb F H σ E _ fun v F1 H1 x1 E1 ⟨l, hl, p⟩ => ?_⟩
  obtain ⟨z1, z2, z3⟩ := hS l hl
  have p : Dq K F1 v (.int (l : Int)) := p
  rw [dd_int p]
  have h := eg_below (XE := XE) (tb := tC (.int (l : Int))) hi (eg_int (K := K)) z1 z2 F1 H1 σ E1 Q fun v F2 H2 x2 E2 ⟨r, hr, p2⟩ => q v F2 H2 (x1.trans x2) E2 ⟨r, Nat.lt_of_lt_of_le hr z3, p2⟩
  obtain ⟨w', hw', h⟩ := h
  rw [hw] at hw'
  cases hw'
  exact h
theorem bg_BP {R : Bool → Prop} (h : EG m Γ te (FP.ex R fun b => Dd K (.bool b))) : BG m Γ (tB te) R := fun F H σ E Q q => h _ _ _ E _ fun v F1 H1 x1 E1 ⟨b, hb, p⟩ => ⟨b, dd_bl p, q b F1 H1 x1 E1 hb⟩
theorem tup_ex {α : Type} {R : α → Prop} {D : α → PyData} {n : Nat} : (TupF K (List.replicate n (FP.ex R fun a => Dd K (D a)))).le (FP.ex (fun l : List α => l.length = n ∧ ∀ a ∈ l, R a) fun l => Dd K (.tuple (l.map D))) := fun {F v} ⟨p, vs, e, hs, al⟩ => by
  obtain ⟨l, h1, h2, h3⟩ := al_ex al
  refine ⟨l, ⟨h1, h2⟩, ?_⟩
  subst e
  exact Dq.tup hs (al_dp (by rw [List.map_map]; exact h3))
end
def waitP (bx : List Nat) (a b : Nat) : Plm := ⟨bx, a, b, [("wait", none)], [("wait", none)]⟩
theorem wait_act {bx : List Nat} {a b : Nat} {S : Sit} (h : S.ns = [0, 0]) {r : Nat} (hr : r < 2) : actM (waitP bx a b) S r = (("wait" : Str), S) := by
  have e0 : atN S.ns r = 0 := by
    rw [h]
    rcases (show r = 0 ∨ r = 1 by omega) with h | h <;> rw [h] <;> rfl
  have hs : stepAt (waitP bx a b) S r = (("wait" : Str), none) := by
    unfold stepAt
    rw [e0]
    rcases (show r = 0 ∨ r = 1 by omega) with h | h <;> rw [h] <;> rfl
  have hl : (lns (waitP bx a b) r).length = 1 := by
    rcases (show r = 0 ∨ r = 1 by omega) with h | h <;> rw [h] <;> rfl
  have hj : jumpM S r "wait" = false := by
    unfold jumpM
    rw [show decide (("wait" : Str) = "goto") = false from by decide +kernel, show decide (("wait" : Str) = "empty") = false from by decide +kernel, show decide (("wait" : Str) = "held") = false from by decide +kernel]
    rfl
  unfold actM
  rw [hs, stuck_other (by decide +kernel) (by decide +kernel) (by decide +kernel), if_neg (by decide), moved_other (by decide +kernel) (by decide +kernel) (by decide +kernel)]
  have hn : nextM (waitP bx a b) S r (("wait" : Str), none) = 0 := by
    unfold nextM
    rw [if_neg (by rw [hj]; decide), hl, e0]
  rw [hn]
  have : S.ns.set r 0 = S.ns := by
    rw [h]
    rcases (show r = 0 ∨ r = 1 by omega) with h | h <;> rw [h] <;> rfl
  rw [this]
theorem wait_rep (bx : List Nat) (a b : Nat) : Repeats (waitP bx a b) 4000 := by
  refine ⟨0, 1, by decide, by decide, ?_⟩
  show sit0 _ = (actM (waitP bx a b) (actM (waitP bx a b) (sit0 (waitP bx a b)) 0).2 1).2
  rw [wait_act (S := sit0 (waitP bx a b)) (r := 0) rfl (by decide), wait_act (S := sit0 (waitP bx a b)) (r := 1) rfl (by decide)]
theorem wait_ok {P : Plm} (h : PlanOk P) : PlanOk (waitP P.bx P.a P.b) := by
  have z : StepsOk [(("wait" : Str), none)] := by
    refine ⟨by decide, by decide, fun s hs => ?_, fun s hs t ht => ?_, fun s hs => ?_⟩
    · rw [List.mem_singleton.mp hs]
      decide +kernel
    · rw [List.mem_singleton.mp hs] at ht
      cases ht
    · rw [List.mem_singleton.mp hs]
      decide +kernel
  exact ⟨h.lo, h.hi, h.most, h.la, h.lb, h.ab, z, z⟩
/-- a law's plan -/
structure LawPl (n : Nat) (Pl : Plm) : Prop where
  ok : PlanOk Pl
  rep : Repeats Pl 4000
  c8 : Pl.bx.length ≤ 8
  n0 : Pl.l0.length ≤ max 4 n
  n1 : Pl.l1.length ≤ max 4 n
def PhPlan (K : PySem.W.Frag) (as : List En) (ψ : FP) : Prop := ∃ n : Nat, 1 ≤ n ∧ n ≤ 20 ∧ as = [.dr, .fx (Dd K (iD n))] ∧ ψ = FP.ex (LawPl n) fun Pl => Dd K (planD Pl)
section
variable {m : Fm} {K : PySem.W.Frag} {Γ : List En} {t : TA}
theorem eg_min2 {i j : Int} (h : AG m Γ t [.fx (Dd K (.int i)), .fx (Dd K (.int j))]) : EG m Γ (tCB (fun xs H Q => ∃ i j, xs = [V.int i, V.int j] ∧ Q (V.int (if j < i then j else i)) H) t) (Dd K (.int (min i j))) := fun F H σ E Q q => h F H σ E _ fun vs F1 H1 x1 E1 p1 => by
  obtain ⟨v, w, rfl, h1, h2⟩ := ags2 p1
  refine ⟨i, j, by rw [dd_int h1, dd_int h2], ?_⟩
  have e : (if j < i then j else i) = min i j := by
    split <;> omega
  rw [e]
  exact q _ F1 H1 x1 E1 (Dq.int _)
end
end SB

set_option maxHeartbeats 4000000
namespace SB
open PySem PySem.Spec PyProof.Rows L2
open TL (tl)
open Evl
variable {P : Program} {w : World} {K : PySem.W.Frag} {mg : Str → Option Value} {base : Heap}

theorem ok__law_steps (T : Txt K mg) : FnR P w K mg base (L2.CX P w) 2 (He.ga K "_law_steps") (spG (PhSteps K)) := by
  have G__law_below := ok__law_below (P := P) (w := w) (base := base) T
  have KP__law_below : PySem.W.keepIn K (.ref (He.ga K "_law_below")) = true := by
    obtain ⟨_, F⟩ := T.F__law_below
    exact F.kp
  obtain ⟨fd, F⟩ := T.F__law_steps
  have B : Binds K fd P__law_steps [] := F.bindsN fun _ _ _ _ _ _ us hl => match us, hl with | [_, _], _ => rfl
  refine fnR_of F B (F.ok sc__law_steps (fun vs H Q E h => spG_len h fun as ψ hΦ => ?_) (fun cdv A outer s H vs Q E hr h => ?_))
  · obtain ⟨n, h1, h20, rfl, rfl⟩ := hΦ
    rfl
  · have hu := hu_of hr
    have hu64 := hr.units
    refine ⟨_, (pss_cons (ps_par (i := 2) (j := 3) rfl sc__law_steps.nd rfl rfl (by decide) rfl rfl (pa_cons (pe_op op_add pe_int (pe_callR G__law_below (hr.mono (by decide)) T.g__law_below KP__law_below px (pa_cons (pv 0) (pa_cons (pv 1) pa_nil)))) (pa_cons (pe_lst (pa_cons pe_str (pa_cons pe_str (pa_cons pe_str (pa_cons pe_str (pa_cons pe_str (pa_cons pe_str (pa_cons pe_str (pa_cons pe_str pa_nil))))))))) pa_nil)) rfl)
        (pss_cons (ps_if (pw_and (pt_cmpR op_gt (pv 1) pe_int (nomark _)) (pw_and1 (pt_cmpR op_eq (pe_callR G__law_below (hr.mono (by decide)) T.g__law_below KP__law_below px (pa_cons (pv 0) (pa_cons pe_int pa_nil))) pe_int (nomark _)))).pt (pss_cons (ps_set (i := 4) sc__law_steps.nd rfl (by first | exact Or.inl rfl | exact Or.inr rfl) (pe_ix ix_list (pe_lst (pa_cons (pe_lst (pa_cons pe_str (pa_cons pe_str pa_nil))) (pa_cons (pe_lst (pa_cons pe_str (pa_cons pe_str pa_nil))) pa_nil))) (pe_callR G__law_below (hr.mono (by decide)) T.g__law_below KP__law_below px (pa_cons (pv 0) (pa_cons pe_int pa_nil))) (fun _ _ => rfl)))
        (pss_one (ps_ret (pe_lst (pa_cons (pe_tup (pa_cons pe_str (pa_cons pe_non pa_nil))) (pa_cons (pe_tup (pa_cons (pe_ix ix_list (pv 4) pe_int (fun _ _ => rfl)) (pa_cons pe_non pa_nil))) (pa_cons (pe_tup (pa_cons pe_str (pa_cons pe_non pa_nil))) (pa_cons (pe_tup (pa_cons (pe_ix ix_list (pv 4) pe_int (fun _ _ => rfl)) (pa_cons pe_non pa_nil))) pa_nil)))))))) pss_nil)
        (pss_cons (ps_par (i := 5) (j := 6) rfl sc__law_steps.nd rfl rfl (by decide) rfl rfl (pa_cons (pe_ix ix_list (pe_lst (pa_cons pe_int (pa_cons pe_int pa_nil))) (pe_callR G__law_below (hr.mono (by decide)) T.g__law_below KP__law_below px (pa_cons (pv 0) (pa_cons pe_int pa_nil))) (fun _ _ => rfl)) (pa_cons (pe_lst pa_nil) pa_nil)) rfl)
        (pss_cons (ps_for (passes_of rfl) rfl (pi_range1 (by rfl) T.b_range (pa_cons (pv 2) pa_nil)) (pg_name (i := 7) sc__law_steps.nd rfl (by first | exact Or.inl rfl | exact Or.inr rfl)) (pss_cons (ps_set (i := 8) sc__law_steps.nd rfl (by first | exact Or.inl rfl | exact Or.inr rfl) (pe_ix ix_list (pv 3) (pe_callR G__law_below (hr.mono (by decide)) T.g__law_below KP__law_below px (pa_cons (pv 0) (pa_cons (pv 5) pa_nil))) (fun _ _ => rfl)))
        (pss_one (ps_expr (pe_bm PySem.F.plainAttrs_list PySem.F.slot_list_append PySem.F.type_list_append mt_append (pv 6) (pa_cons (pe_tup (pa_cons (pv 8) (pa_cons (pe_ifExp (pt_cmpR op_in_seq (pv 8) (pe_lst (pa_cons pe_str (pa_cons pe_str (pa_cons pe_str pa_nil)))) (by rfl)) (pe_callR G__law_below (hr.mono (by decide)) T.g__law_below KP__law_below px (pa_cons (pv 0) (pa_cons (pv 2) pa_nil))) pe_non) pa_nil))) pa_nil))))))
        (pss_one (ps_ret (pv 6))))))), ?_⟩
    refine spG_body h fun m as ψ hΦ => ?_
    obtain ⟨n, h1, h20, rfl, rfl⟩ := hΦ
    let W8 : List Str := ["left", "right", "pick", "put", "wait", "goto", "empty", "held"]
    have hW8 : ∀ w ∈ W8, w ∈ commands := by decide +kernel
    refine q_parEF (S := fun k : Nat => 1 ≤ k ∧ k ≤ n) (f := fun k => Dd K (iD k)) (eg_le (eg_addE eg_int (eg_draw rfl (eg_var rfl) (by omega) (by omega))) (ex_le (R := fun r : Nat => r < n) (f := fun a : Nat => Dd K (.int (1 + (a : Int)))) (S := fun k : Nat => 1 ≤ k ∧ k ≤ n) (g := fun k => Dd K (iD k)) (fun r => 1 + r) fun r hr => ⟨⟨by omega, by omega⟩, by
      rw [show (1 + (r : Int)) = ((1 + r : Nat) : Int) from by omega]
      exact FP.le.refl _⟩)) (eg_lstD (K := K) (ds := W8.map .str) (ag_cons eg_str (ag_cons eg_str (ag_cons eg_str (ag_cons eg_str (ag_cons eg_str (ag_cons eg_str (ag_cons eg_str (ag_cons eg_str ag_nil)))))))) (by decide)) (Nat.le_of_ble_eq_true rfl) (by decide) fun k hk => ?_
    obtain ⟨k1, k2⟩ := hk
    have eq0 : ∀ {Γ : List En} {te : TE} {lim : Nat}, EG m Γ te (LtF K lim) → BG m Γ (tTest (tOp rEq te (tC (.int 0)))) (fun _ => True) := fun h => bg_testP (K := K) (R := fun _ => True) (eg_op h (eg_int (K := K)) fun F H x y e ⟨r, hr, p1⟩ p2 => by
      have p1 : Dq K F x (.int (r : Int)) := p1
      rw [dd_int p1, dd_int p2]
      exact ⟨_, ⟨_, trivial, Dq.bl _⟩, rv_eq rfl⟩)
    refine q_whenG (P := fun _ => True) (bg_le (bg_and (bg_test (eg_i0 (eg_var (φ := Dd K (.int (n : Int))) rfl) eg_int)) fun _ => eq0 (eg_draw (lim := 8) rfl eg_int (by decide) (by decide))) fun _ _ => trivial) (fun _ => ?_) (fun _ => ?_)
    · refine sg_seq (N := fun _ => False) (q_asgE (S := fun d => d ∈ [PyData.list [.str "left", .str "right"], .list [.str "right", .str "left"]]) (f := fun d => Dd K d) (eg_pick (n := 2) (eg_lstD (K := K) (ds := [.list [.str "left", .str "right"], .list [.str "right", .str "left"]]) (ag_cons (eg_lstD (K := K) (ds := [.str "left", .str "right"]) (ag_cons eg_str (ag_cons eg_str ag_nil)) (by decide)) (ag_cons (eg_lstD (K := K) (ds := [.str "right", .str "left"]) (ag_cons eg_str (ag_cons eg_str ag_nil)) (by decide)) ag_nil)) (by decide)) (eg_draw rfl eg_int (by decide) (by decide)) (by decide)) rfl (Nat.le_of_ble_eq_true rfl) fun d hd => ?_) fun _ h => h.elim
      have go : ∀ a b : Str, d = .list [.str a, .str b] → a ∈ commands → b ∈ commands → a ∉ jumps → b ∉ jumps → SG m ((((pads N__law_steps.length [.dr, .fx (Dd K (iD n))]).set 2 (.fx (Dd K (iD k)))).set 3 (.fx (Dd K (.list (W8.map .str))))).set 4 (.fx (Dd K d))) _ ⟨fun _ => False, FP.ex (fun l : List Lk => StepsOk l ∧ l.length ≤ max 4 n) fun l => Dd K (stepsD l), fun _ => False, fun _ => False⟩ := fun a b e ha hb ja jb => by
        subst e
        refine sg_ret (eg_le (eg_lstD (K := K) (ds := [(("pick" : Str), none), (a, none), (("put" : Str), none), (b, none)].map stepD) (ag_cons (eg_tupD (K := K) (ds := [.str "pick", .none]) (ag_cons eg_str (ag_cons eg_non ag_nil)) (by decide)) (ag_cons (eg_tupD (K := K) (ds := [.str a, .none]) (ag_cons (eg_ixL (ds := [.str a, .str b]) (i := 0) (eg_var (i := 4) rfl) eg_int rfl) (ag_cons eg_non ag_nil)) (Nat.le_of_ble_eq_true rfl)) (ag_cons (eg_tupD (K := K) (ds := [.str "put", .none]) (ag_cons eg_str (ag_cons eg_non ag_nil)) (by decide)) (ag_cons (eg_tupD (K := K) (ds := [.str b, .none]) (ag_cons (eg_ixL (ds := [.str a, .str b]) (i := 1) (eg_var (i := 4) rfl) eg_int rfl) (ag_cons eg_non ag_nil)) (Nat.le_of_ble_eq_true rfl)) ag_nil)))) (Nat.le_of_ble_eq_true rfl)) (ex_in (g := fun l => Dd K (stepsD l)) _ ⟨⟨(Nat.le_of_ble_eq_true rfl), (Nat.le_of_ble_eq_true rfl), ?_, ?_, ?_⟩, by show 4 ≤ max 4 n; omega⟩))
        · intro s hs
          simp only [List.mem_cons, List.not_mem_nil, or_false] at hs
          rcases hs with rfl | rfl | rfl | rfl
          · decide +kernel
          · exact ha
          · decide +kernel
          · exact hb
        · intro s hs t ht
          simp only [List.mem_cons, List.not_mem_nil, or_false] at hs
          rcases hs with rfl | rfl | rfl | rfl <;> cases ht
        · intro s hs
          simp only [List.mem_cons, List.not_mem_nil, or_false] at hs
          rcases hs with rfl | rfl | rfl | rfl
          · decide +kernel
          · show false = decide (a ∈ jumps)
            rw [decide_eq_false ja]
          · decide +kernel
          · show false = decide (b ∈ jumps)
            rw [decide_eq_false jb]
      simp only [List.mem_cons, List.not_mem_nil, or_false] at hd
      rcases hd with hd | hd
      · exact go _ _ hd (by decide +kernel) (by decide +kernel) (by decide +kernel) (by decide +kernel)
      · exact go _ _ hd (by decide +kernel) (by decide +kernel) (by decide +kernel) (by decide +kernel)
    refine q_parEO (S := fun d : Nat => d = 5 ∨ d = 8) (f := fun d => Dd K (iD d)) (eg_le (eg_pick (n := 2) (eg_lstD (K := K) (ds := [iD 5, iD 8]) (ag_cons eg_int (ag_cons eg_int ag_nil)) (by decide)) (eg_draw rfl eg_int (by decide) (by decide)) (by decide)) (fun {F v} ⟨d, hd, p⟩ => by
      simp only [List.mem_cons, List.not_mem_nil, or_false] at hd
      rcases hd with rfl | rfl
      · exact ⟨5, .inl rfl, p⟩
      · exact ⟨8, .inr rfl, p⟩)) (eo_lst (φs := []) ag_nil (by decide)) (Nat.le_of_ble_eq_true rfl) (by decide) fun lim hlim => ?_
    have hl8 : 0 < lim ∧ lim ≤ 8 := by omega
    refine q_forG (it_rng1 (K := K) (n := k) (ag_cons (eg_var rfl) ag_nil) (by omega)) (fun i Γ' => ∃ x y, (∀ R, x ≠ .oo R) ∧ (∀ R, y ≠ .oo R) ∧ Γ' = [.dr, .fx (Dd K (iD n)), .fx (Dd K (iD k)), .fx (Dd K (.list (W8.map .str))), .un, .fx (Dd K (iD lim)), .oo (OwL (List.replicate i (StepF K k))), x, y]) ⟨.un, .un, (fun R h => by cases h), (fun R h => by cases h), rfl⟩ (fun i φ Γ' hi ⟨x, y, hx, hy, e⟩ => ?_) (fun Γ' ⟨x, y, hx, hy, e⟩ => ?_)
    · subst e
      obtain ⟨hi, rfl⟩ := rngF_of hi
      refine ⟨_, to_name, ?_⟩
      refine q_asgE (S := fun w : Str => w ∈ commands) (f := fun w => Dd K (.str w)) (eg_le (eg_pick (n := lim) (ds := W8.map .str) (eg_var rfl) (eg_draw rfl (eg_var rfl) hl8.1 (by omega)) (by show lim ≤ 8; exact hl8.2)) (fun {F v} ⟨d, hd, p⟩ => by
        obtain ⟨w1, hw1, rfl⟩ := List.mem_map.mp hd
        exact ⟨w1, hW8 w1 hw1, p⟩)) rfl (Nat.le_of_ble_eq_true rfl) fun w1 hw1 => ?_
      have el : EG m _ (tTup _) (StepF K k) := eg_le (eg_tup (K := K) (φs := [Dd K (.str w1), FP.ex (fun t : Option Nat => t.isSome = decide (w1 ∈ jumps) ∧ ∀ x, t = some x → x < k) fun t => Dd K (goalD t)]) (ag_cons (eg_var (Γ := ((([.dr, .fx (Dd K (iD n)), .fx (Dd K (iD k)), .fx (Dd K (.list (W8.map .str))), .un, .fx (Dd K (iD lim)), .oo (OwL (List.replicate i (StepF K k))), x, y] : List En).set 7 (.fx (Dd K (.int (0 + (i : Int)))))).set 8 (.fx (Dd K (.str w1))))) (i := 8) rfl) (ag_cons (eg_if (bg_test (eg_is (eg_inF (neg := false) (x := .str w1) (xs := [.str "goto", .str "empty", .str "held"]) (eg_var (i := 8) rfl) (eg_lstD (K := K) (ds := [.str "goto", .str "empty", .str "held"]) (ag_cons eg_str (ag_cons eg_str (ag_cons eg_str ag_nil))) (by decide)) rfl rfl rfl rfl) (congrArg PyData.bool (inV_strs w1 jumps)))) (fun hb => eg_le (eg_draw (XE := E) (i := 0) (lim := k) rfl (eg_var (i := 2) rfl) (by omega) (by omega)) (ex_le (R := fun r : Nat => r < k) (f := fun r => Dd K (iD r)) some fun r hr => ⟨⟨hb, fun x hx => by cases hx; exact hr⟩, FP.le.refl _⟩)) (fun hb => eg_le eg_non (ex_in (g := fun t : Option Nat => Dd K (goalD t)) none ⟨hb, fun x hx => by cases hx⟩))) ag_nil)) (Nat.le_of_ble_eq_true rfl)) (fun {F v} ⟨p, vs, e, hp, al⟩ => by
        subst e
        cases al with
        | cons h1 t1 =>
          cases t1 with
          | cons h2 t2 =>
            cases t2
            obtain ⟨t, ht, h2⟩ := h2
            exact ⟨(w1, t), ⟨hw1, ht.1, ht.2⟩, Dq.tup hp (.cons h1 (.cons h2 .nil))⟩)
      intro F H σ E1 D q
      refine q_appG (tz := tNext) (i := 6) (φs := List.replicate i (StepF K k)) rfl el (by rw [List.length_replicate]; omega) (sg_next ?_) F H σ E1 D q
      refine ⟨.fx (Dd K (.int (0 + (i : Int)))), .fx (Dd K (.str w1)), (fun R h => by cases h), (fun R h => by cases h), ?_⟩
      rw [List.replicate_succ']
      rfl
    · subst e
      rw [rngF_len]
      refine sg_frz (K := K) (i := 6) rfl (sg_ret (eg_le (eg_le (eg_var rfl) lst_ex) (ex_le id fun l hl => ⟨⟨stepsR_ok k1 (by omega) hl.1 hl.2, by have := hl.1; show l.length ≤ _; omega⟩, FP.le.refl _⟩)))

end SB

set_option maxHeartbeats 4000000
namespace SB
open PySem PySem.Spec PyProof.Rows L2
open TL (tl)
open Evl
variable {P : Program} {w : World} {K : PySem.W.Frag} {mg : Str → Option Value} {base : Heap}

theorem ok__law_plan (T : Txt K mg) : FnR P w K mg base (L2.CX P w) 4 (He.ga K "_law_plan") (spG (PhPlan K)) := by
  have G__law_below := ok__law_below (P := P) (w := w) (base := base) T
  have KP__law_below : PySem.W.keepIn K (.ref (He.ga K "_law_below")) = true := by
    obtain ⟨_, F⟩ := T.F__law_below
    exact F.kp
  have G__law_repeats := ok__law_repeats (P := P) (w := w) (base := base) T
  have KP__law_repeats : PySem.W.keepIn K (.ref (He.ga K "_law_repeats")) = true := by
    obtain ⟨_, F⟩ := T.F__law_repeats
    exact F.kp
  have G__law_steps := ok__law_steps (P := P) (w := w) (base := base) T
  have KP__law_steps : PySem.W.keepIn K (.ref (He.ga K "_law_steps")) = true := by
    obtain ⟨_, F⟩ := T.F__law_steps
    exact F.kp
  obtain ⟨fd, F⟩ := T.F__law_plan
  have B : Binds K fd P__law_plan [] := F.bindsN fun _ _ _ _ _ _ us hl => match us, hl with | [_, _], _ => rfl
  refine fnR_of F B (F.ok sc__law_plan (fun vs H Q E h => spG_len h fun as ψ hΦ => ?_) (fun cdv A outer s H vs Q E hr h => ?_))
  · obtain ⟨n, h1, h20, rfl, rfl⟩ := hΦ
    rfl
  · have hu := hu_of hr
    have hu64 := hr.units
    refine ⟨_, (pss_cons (ps_set (i := 2) sc__law_plan.nd rfl (by first | exact Or.inl rfl | exact Or.inr rfl) (pe_op op_add pe_int (pe_callR G__law_below (hr.mono (by decide)) T.g__law_below KP__law_below px (pa_cons (pv 0) (pa_cons (pe_ix ix_list (pe_lst (pa_cons pe_int (pa_cons pe_int pa_nil))) (pe_callR G__law_below (hr.mono (by decide)) T.g__law_below KP__law_below px (pa_cons (pv 0) (pa_cons pe_int pa_nil))) (fun _ _ => rfl)) pa_nil)))))
        (pss_cons (ps_set (i := 3) sc__law_plan.nd rfl (by first | exact Or.inl rfl | exact Or.inr rfl) (pe_callR G__law_below (hr.mono (by decide)) T.g__law_below KP__law_below px (pa_cons (pv 0) (pa_cons (pv 2) pa_nil))))
        (pss_cons (ps_set (i := 4) sc__law_plan.nd rfl (by first | exact Or.inl rfl | exact Or.inr rfl) (pe_op op_modN (pe_op op_add (pe_op op_add (pv 3) pe_int) (pe_callR G__law_below (hr.mono (by decide)) T.g__law_below KP__law_below px (pa_cons (pv 0) (pa_cons (pe_op op_sub (pv 2) pe_int) pa_nil)))) (pv 2)))
        (pss_cons (ps_set (i := 5) sc__law_plan.nd rfl (by first | exact Or.inl rfl | exact Or.inr rfl) (pe_callTy call_tuple_of (by rfl) T.b_tuple (by decide +kernel) (pa_cons (pe_lc (te := (tCallR spBelow E0 (tCons (tVar 0) (tCons (tC (.int 4)) tNil)))) (own := [("_law_k", 7)]) rfl sc__law_plan.nd (pi_range1 (by rfl) T.b_range (pa_cons (pv 2) pa_nil)) (blkOk_by (own := [("_law_k", 7)]) (N := N__law_plan) (sc := defScope s__law_plan) (by decide +kernel)) (fun _ _ _ _ _ => by exact pg_name (i := 7) sc__law_plan.nd rfl (by first | exact Or.inl rfl | exact Or.inr rfl)) (fun _ _ _ _ _ => by exact pts_nil) (fun _ _ _ _ _ => by exact (pe_callR G__law_below (hr.mono (by decide)) T.g__law_below KP__law_below passL (pa_cons (pv 0) (pa_cons pe_int pa_nil))))) pa_nil)))
        (pss_cons (ps_set (i := 6) sc__law_plan.nd rfl (by first | exact Or.inl rfl | exact Or.inr rfl) (pe_tup (pa_cons (pv 5) (pa_cons (pe_tup (pa_cons (pv 3) (pa_cons (pv 4) pa_nil))) (pa_cons (pe_lst (pa_cons (pe_callR G__law_steps (hr.mono (by decide)) T.g__law_steps KP__law_steps px (pa_cons (pv 0) (pa_cons (pv 1) pa_nil))) (pa_cons (pe_callR G__law_steps (hr.mono (by decide)) T.g__law_steps KP__law_steps px (pa_cons (pv 0) (pa_cons (pv 1) pa_nil))) pa_nil))) pa_nil)))))
        (pss_one (ps_ret (pe_ifExp (pt_val (pe_callR G__law_repeats (hr.mono (by decide)) T.g__law_repeats KP__law_repeats px (pa_cons (pv 6) pa_nil))) (pv 6) (pe_tup (pa_cons (pv 5) (pa_cons (pe_tup (pa_cons (pv 3) (pa_cons (pv 4) pa_nil))) (pa_cons (pe_lst (pa_cons (pe_lst (pa_cons (pe_tup (pa_cons pe_str (pa_cons pe_non pa_nil))) pa_nil)) (pa_cons (pe_lst (pa_cons (pe_tup (pa_cons pe_str (pa_cons pe_non pa_nil))) pa_nil)) pa_nil))) pa_nil)))))))))))), ?_⟩
    refine spG_body h fun m as ψ hΦ => ?_
    obtain ⟨n, h1, h20, rfl, rfl⟩ := hΦ
    refine q_asgE (S := fun c : Nat => 3 ≤ c ∧ c ≤ 8) (f := fun c => Dd K (iD c)) (eg_le (eg_addE (K := K) (i := 3) eg_int (eg_drawE (M := 6) (S := fun l => l = 3 ∨ l = 6) rfl (eg_le (eg_pick (n := 2) (eg_lstD (K := K) (ds := [iD 3, iD 6]) (ag_cons eg_int (ag_cons eg_int ag_nil)) (by decide)) (eg_draw rfl eg_int (by decide) (by decide)) (by decide)) (fun {F v} ⟨d, hd, p⟩ => by
      simp only [List.mem_cons, List.not_mem_nil, or_false] at hd
      rcases hd with rfl | rfl
      · exact ⟨3, .inl rfl, p⟩
      · exact ⟨6, .inr rfl, p⟩)) (fun l h => by omega))) (ex_le (R := fun r : Nat => r < 6) (f := fun a : Nat => Dd K (.int (3 + (a : Int)))) (S := fun c : Nat => 3 ≤ c ∧ c ≤ 8) (g := fun c => Dd K (iD c)) (fun r => 3 + r) fun r hr => ⟨⟨by omega, by omega⟩, by
      rw [show (3 + (r : Int)) = ((3 + r : Nat) : Int) from by omega]
      exact FP.le.refl _⟩)) rfl (Nat.le_of_ble_eq_true rfl) fun c hc => ?_
    refine q_asgE (S := fun a : Nat => a < c) (f := fun a => Dd K (iD a)) (eg_draw rfl (eg_var rfl) (by omega) (by omega)) rfl (Nat.le_of_ble_eq_true rfl) fun a ha => ?_
    refine q_asgE (S := fun b : Nat => b < c ∧ a ≠ b) (f := fun b => Dd K (iD b)) (eg_op (φ1 := FP.ex (fun r : Nat => r < c - 1) fun r => Dd K (.int (((a : Int) + 1) + (r : Int)))) (φ2 := Dd K (.int (c : Int))) (eg_addE (i := (a : Int) + 1) (eg_i0 (eg_var (φ := Dd K (.int (a : Int))) rfl) eg_int) (eg_draw (lim := c - 1) rfl (eg_is (eg_i0 (eg_var (φ := Dd K (.int (c : Int))) rfl) eg_int) (by
      show PyData.int ((c : Int) - 1) = PyData.int ((c - 1 : Nat) : Int)
      rw [Int.ofNat_sub (by omega)]
      rfl)) (by omega) (by omega))) (eg_var rfl) fun F H x y e ⟨r, hr, p1⟩ p2 => by
        rw [dd_int p1, dd_int p2]
        have ez : Int.fmod ((a : Int) + 1 + (r : Int)) (c : Int) = (((a + 1 + r) % c : Nat) : Int) := by
          rw [Int.fmod_eq_emod_of_nonneg _ (by omega)]
          rfl
        refine ⟨.int (((a + 1 + r) % c : Nat) : Int), ⟨(a + 1 + r) % c, ⟨Nat.mod_lt _ (by omega), ?_⟩, Dq.int _⟩, ?_⟩
        · by_cases q : a + 1 + r < c
          · rw [Nat.mod_eq_of_lt q]
            omega
          · rw [Nat.mod_eq_sub_mod (by omega), Nat.mod_eq_of_lt (by omega)]
            omega
        · rw [← ez]
          exact rv_I (by omega)) rfl (Nat.le_of_ble_eq_true rfl) fun b hb => ?_
    have hlc := eo_lcM (te := tCallR spBelow E0 (tCons (tVar 0) (tCons (tC (.int 4)) tNil))) (g := gName 7) (vs := [7]) (m := m) (Γ := [.dr, .fx (Dd K (iD n)), .fx (Dd K (iD c)), .fx (Dd K (iD a)), .fx (Dd K (iD b)), .un, .un, .un]) (it_rng1 (K := K) (n := c) (ag_cons (te := tVar 2) (eg_var rfl) ag_nil) (by omega)) (by rw [rngF_len]; omega) (fun i hi R => by
        have : i = 7 := by simpa using hi
        subst this
        intro h
        cases h) (fun _ => LtF K 4) fun i φ hi => ⟨_, tv_name (by simp), eg_draw rfl eg_int (by decide) (by decide)⟩
    rw [rngF_len, show (List.range c).map (fun _ => LtF K 4) = List.replicate c (LtF K 4) from by rw [List.map_const', List.length_range]] at hlc
    refine q_asgE (S := fun bx : List Nat => bx.length = c ∧ ∀ n ∈ bx, n < 4) (f := fun bx => Dd K (.tuple (bx.map iD))) (eg_le (eg_tupOf (eg_eo (K := K) hlc)) (tup_ex (R := fun r : Nat => r < 4) (D := iD))) rfl (Nat.le_of_ble_eq_true rfl) fun bx hbx => ?_
    refine q_asgE (S := fun Pl : Plm => PlanOk Pl ∧ Pl.bx = bx ∧ Pl.a = a ∧ Pl.b = b ∧ Pl.l0.length ≤ max 4 n ∧ Pl.l1.length ≤ max 4 n) (f := fun Pl => Dd K (planD Pl)) (eg_le (eg_tup (K := K) (φs := [Dd K (.tuple (bx.map iD)), Dd K (.tuple [iD a, iD b]), LstF K [FP.ex (fun l : List Lk => StepsOk l ∧ l.length ≤ max 4 n) (fun l => Dd K (stepsD l)), FP.ex (fun l : List Lk => StepsOk l ∧ l.length ≤ max 4 n) fun l => Dd K (stepsD l)]]) (ag_cons (eg_var rfl) (ag_cons (eg_tupD (K := K) (ds := [iD a, iD b]) (ag_cons (eg_var rfl) (ag_cons (eg_var rfl) ag_nil)) (Nat.le_of_ble_eq_true rfl)) (ag_cons (eg_lst (K := K) (φs := [FP.ex (fun l : List Lk => StepsOk l ∧ l.length ≤ max 4 n) (fun l => Dd K (stepsD l)), FP.ex (fun l : List Lk => StepsOk l ∧ l.length ≤ max 4 n) fun l => Dd K (stepsD l)]) (ag_cons (eg_call (ag_dr rfl (ag_cons (eg_var rfl) ag_nil)) ⟨n, h1, h20, rfl, rfl⟩) (ag_cons (eg_call (ag_dr rfl (ag_cons (eg_var rfl) ag_nil)) ⟨n, h1, h20, rfl, rfl⟩) ag_nil)) (Nat.le_of_ble_eq_true rfl)) ag_nil))) (Nat.le_of_ble_eq_true rfl)) (fun {F v} ⟨p, vs, e, hp, al⟩ => by
        subst e
        cases al with
        | cons g1 al =>
          cases al with
          | cons g2 al =>
            cases al with
            | cons g3 al =>
              cases al
              obtain ⟨p3, vs3, e3, hp3, al3⟩ := g3
              subst e3
              cases al3 with
              | cons s1 al3 =>
                cases al3 with
                | cons s2 al3 =>
                  cases al3
                  obtain ⟨l0, k0, s1⟩ := s1
                  obtain ⟨l1, k1, s2⟩ := s2
                  exact ⟨⟨bx, a, b, l0, l1⟩, ⟨⟨by show 3 ≤ bx.length; omega, by show bx.length ≤ 12; omega, fun n hn => by have := hbx.2 n hn; omega, by show a < bx.length; omega, by show b < bx.length; omega, hb.2, k0.1, k1.1⟩, rfl, rfl, rfl, k0.2, k1.2⟩, Dq.tup hp (.cons g1 (.cons g2 (.cons (Dq.lst hp3 (.cons s1 (.cons s2 .nil))) .nil)))⟩)) rfl (Nat.le_of_ble_eq_true rfl) fun Pl hPl => ?_
    obtain ⟨hok, rfl, rfl, rfl, hl0, hl1⟩ := hPl
    refine sg_ret (eg_if (bg_BP (K := K) (R := fun b : Bool => b = true → Repeats Pl 4000) (eg_call (ag_cons (eg_var (φ := Dd K (planD Pl)) rfl) ag_nil) ⟨Pl, hok, rfl, rfl⟩)) (fun h => eg_le (eg_var rfl) (ex_in (g := fun Pl => Dd K (planD Pl)) Pl ⟨hok, h rfl, by omega, hl0, hl1⟩)) fun _ => ?_)
    have wl : ∀ {Γ : List En}, EG m Γ (tLst (tCons (tTup (tCons (tC (V.str "wait")) (tCons (tC V.non) tNil))) tNil)) (Dd K (stepsD [(("wait" : Str), none)])) := fun {Γ} => eg_lstD (K := K) (ds := [stepD (("wait" : Str), none)]) (ag_cons (eg_tupD (K := K) (ds := [.str "wait", .none]) (ag_cons eg_str (ag_cons eg_non ag_nil)) (by decide)) ag_nil) (Nat.le_of_ble_eq_true rfl)
    exact eg_le (eg_tupD (K := K) (ds := [.tuple (intsD Pl.bx), .tuple [iD Pl.a, iD Pl.b], .list [stepsD [(("wait" : Str), none)], stepsD [(("wait" : Str), none)]]]) (ag_cons (eg_var rfl) (ag_cons (eg_tupD (K := K) (ds := [iD Pl.a, iD Pl.b]) (ag_cons (eg_var rfl) (ag_cons (eg_var rfl) ag_nil)) (Nat.le_of_ble_eq_true rfl)) (ag_cons (eg_lstD (K := K) (ds := [stepsD [(("wait" : Str), none)], stepsD [(("wait" : Str), none)]]) (ag_cons wl (ag_cons wl ag_nil)) (Nat.le_of_ble_eq_true rfl)) ag_nil))) (Nat.le_of_ble_eq_true rfl)) (ex_in (g := fun Pl => Dd K (planD Pl)) (waitP Pl.bx Pl.a Pl.b) ⟨wait_ok hok, wait_rep _ _ _, by show Pl.bx.length ≤ 8; omega, by show 1 ≤ max 4 n; omega, by show 1 ≤ max 4 n; omega⟩)

end SB

set_option maxHeartbeats 4000000
namespace SB
open PySem PySem.Spec PyProof.Rows L2
open TL (tl)
variable {P : Program} {w : World} {K : PySem.W.Frag} {mg : Str → Option Value} {base : Heap}

def g_Token : List V → Option (List (Str × V)) := fun us => match us with
  | [x0, x1, x2, x3] => some [("kind", x0), ("text", x1), ("line", x2), ("column", x3)]
  | _ => none
theorem ok_Token_init (T : Txt K mg) : FnR P w K mg base (L2.CX P w) 1 (He.ma K (He.ga K "Token") "__init__") (spInit (He.ga K "Token") g_Token) := by
  obtain ⟨fd, F⟩ := T.F_Token_init
  have B : Binds K fd P_Token_init [] := F.bindsN fun _ _ _ _ _ _ us hl => match us, hl with | [_, _, _, _, _], _ => rfl
  refine fnR_of F B (F.ok sc_Token_init (fun vs H Q E h => ?_) (fun cdv A outer s H vs Q E hr h => ?_))
  · obtain ⟨p, dx, us, fs, rfl, hg, hp, k⟩ := h
    match us, hg with
    | [x0, x1, x2, x3], _ => rfl
  · have hu := hu_of hr
    obtain ⟨p, dx, us, fs, rfl, hg, hp, k⟩ := h
    obtain ⟨x0, x1, x2, x3, rfl⟩ : ∃ x0 x1 x2 x3, us = [x0, x1, x2, x3] := by
      match us, hg with
      | [x0, x1, x2, x3], _ => exact ⟨x0, x1, x2, x3, rfl⟩
    obtain rfl := Option.some.inj (show some _ = some fs from hg)
    refine ⟨_, (pss_cons (ps_fld (pv 0) (pv 1) rfl)
        (pss_cons (ps_fld (pv 0) (pv 2) rfl)
        (pss_cons (ps_fld (pv 0) (pv 3) rfl)
        (pss_one (ps_fld (pv 0) (pv 4) rfl))))), ?_⟩
    refine ⟨_, rfl, _, rfl, p, _, dx, _, rfl, hp, T.c_Token, T.n_Token_kind, (by show 0 < 1000; decide),
      _, rfl, _, rfl, p, _, dx, _, rfl, upd_same, T.c_Token, T.n_Token_text, (by show 1 < 1000; decide),
      _, rfl, _, rfl, p, _, dx, _, rfl, upd_same, T.c_Token, T.n_Token_line, (by show 2 < 1000; decide),
      _, rfl, _, rfl, p, _, dx, _, rfl, upd_same, T.c_Token, T.n_Token_column, (by show 3 < 1000; decide), ?_⟩
    refine k _ upd_same fun b o e hb => ?_
    rw [upd_ne hb, upd_ne hb, upd_ne hb, upd_ne hb]
    exact e

def g_PlanTokens : List V → Option (List (Str × V)) := fun us => match us with
  | [x0, x1, x2] => some [("keyword", x0), ("numbers", x1), ("robots", x2)]
  | _ => none
theorem ok_PlanTokens_init (T : Txt K mg) : FnR P w K mg base (L2.CX P w) 1 (He.ma K (He.ga K "PlanTokens") "__init__") (spInit (He.ga K "PlanTokens") g_PlanTokens) := by
  obtain ⟨fd, F⟩ := T.F_PlanTokens_init
  have B : Binds K fd P_PlanTokens_init [] := F.bindsN fun _ _ _ _ _ _ us hl => match us, hl with | [_, _, _, _], _ => rfl
  refine fnR_of F B (F.ok sc_PlanTokens_init (fun vs H Q E h => ?_) (fun cdv A outer s H vs Q E hr h => ?_))
  · obtain ⟨p, dx, us, fs, rfl, hg, hp, k⟩ := h
    match us, hg with
    | [x0, x1, x2], _ => rfl
  · have hu := hu_of hr
    obtain ⟨p, dx, us, fs, rfl, hg, hp, k⟩ := h
    obtain ⟨x0, x1, x2, rfl⟩ : ∃ x0 x1 x2, us = [x0, x1, x2] := by
      match us, hg with
      | [x0, x1, x2], _ => exact ⟨x0, x1, x2, rfl⟩
    obtain rfl := Option.some.inj (show some _ = some fs from hg)
    refine ⟨_, (pss_cons (ps_fld (pv 0) (pv 1) rfl)
        (pss_cons (ps_fld (pv 0) (pv 2) rfl)
        (pss_one (ps_fld (pv 0) (pv 3) rfl)))), ?_⟩
    refine ⟨_, rfl, _, rfl, p, _, dx, _, rfl, hp, T.c_PlanTokens, T.n_PlanTokens_keyword, (by show 0 < 1000; decide),
      _, rfl, _, rfl, p, _, dx, _, rfl, upd_same, T.c_PlanTokens, T.n_PlanTokens_numbers, (by show 1 < 1000; decide),
      _, rfl, _, rfl, p, _, dx, _, rfl, upd_same, T.c_PlanTokens, T.n_PlanTokens_robots, (by show 2 < 1000; decide), ?_⟩
    refine k _ upd_same fun b o e hb => ?_
    rw [upd_ne hb, upd_ne hb, upd_ne hb]
    exact e

def g_RobotTokens : List V → Option (List (Str × V)) := fun us => match us with
  | [x0, x1] => some [("start", x0), ("steps", x1)]
  | _ => none
theorem ok_RobotTokens_init (T : Txt K mg) : FnR P w K mg base (L2.CX P w) 1 (He.ma K (He.ga K "RobotTokens") "__init__") (spInit (He.ga K "RobotTokens") g_RobotTokens) := by
  obtain ⟨fd, F⟩ := T.F_RobotTokens_init
  have B : Binds K fd P_RobotTokens_init [] := F.bindsN fun _ _ _ _ _ _ us hl => match us, hl with | [_, _, _], _ => rfl
  refine fnR_of F B (F.ok sc_RobotTokens_init (fun vs H Q E h => ?_) (fun cdv A outer s H vs Q E hr h => ?_))
  · obtain ⟨p, dx, us, fs, rfl, hg, hp, k⟩ := h
    match us, hg with
    | [x0, x1], _ => rfl
  · have hu := hu_of hr
    obtain ⟨p, dx, us, fs, rfl, hg, hp, k⟩ := h
    obtain ⟨x0, x1, rfl⟩ : ∃ x0 x1, us = [x0, x1] := by
      match us, hg with
      | [x0, x1], _ => exact ⟨x0, x1, rfl⟩
    obtain rfl := Option.some.inj (show some _ = some fs from hg)
    refine ⟨_, (pss_cons (ps_fld (pv 0) (pv 1) rfl)
        (pss_one (ps_fld (pv 0) (pv 2) rfl))), ?_⟩
    refine ⟨_, rfl, _, rfl, p, _, dx, _, rfl, hp, T.c_RobotTokens, T.n_RobotTokens_start, (by show 0 < 1000; decide),
      _, rfl, _, rfl, p, _, dx, _, rfl, upd_same, T.c_RobotTokens, T.n_RobotTokens_steps, (by show 1 < 1000; decide), ?_⟩
    refine k _ upd_same fun b o e hb => ?_
    rw [upd_ne hb, upd_ne hb]
    exact e

def g_StepTokens : List V → Option (List (Str × V)) := fun us => match us with
  | [x0, x1, x2] => some [("label", x0), ("command", x1), ("target", x2)]
  | _ => none
theorem ok_StepTokens_init (T : Txt K mg) : FnR P w K mg base (L2.CX P w) 1 (He.ma K (He.ga K "StepTokens") "__init__") (spInit (He.ga K "StepTokens") g_StepTokens) := by
  obtain ⟨fd, F⟩ := T.F_StepTokens_init
  have B : Binds K fd P_StepTokens_init [] := F.bindsN fun _ _ _ _ _ _ us hl => match us, hl with | [_, _, _, _], _ => rfl
  refine fnR_of F B (F.ok sc_StepTokens_init (fun vs H Q E h => ?_) (fun cdv A outer s H vs Q E hr h => ?_))
  · obtain ⟨p, dx, us, fs, rfl, hg, hp, k⟩ := h
    match us, hg with
    | [x0, x1, x2], _ => rfl
  · have hu := hu_of hr
    obtain ⟨p, dx, us, fs, rfl, hg, hp, k⟩ := h
    obtain ⟨x0, x1, x2, rfl⟩ : ∃ x0 x1 x2, us = [x0, x1, x2] := by
      match us, hg with
      | [x0, x1, x2], _ => exact ⟨x0, x1, x2, rfl⟩
    obtain rfl := Option.some.inj (show some _ = some fs from hg)
    refine ⟨_, (pss_cons (ps_fld (pv 0) (pv 1) rfl)
        (pss_cons (ps_fld (pv 0) (pv 2) rfl)
        (pss_one (ps_fld (pv 0) (pv 3) rfl)))), ?_⟩
    refine ⟨_, rfl, _, rfl, p, _, dx, _, rfl, hp, T.c_StepTokens, T.n_StepTokens_label, (by show 0 < 1000; decide),
      _, rfl, _, rfl, p, _, dx, _, rfl, upd_same, T.c_StepTokens, T.n_StepTokens_command, (by show 1 < 1000; decide),
      _, rfl, _, rfl, p, _, dx, _, rfl, upd_same, T.c_StepTokens, T.n_StepTokens_target, (by show 2 < 1000; decide), ?_⟩
    refine k _ upd_same fun b o e hb => ?_
    rw [upd_ne hb, upd_ne hb, upd_ne hb]
    exact e

def g_Parser : List V → Option (List (Str × V)) := fun us => match us with
  | [x0] => some [("tokens", x0), ("at", V.int 0)]
  | _ => none
theorem ok_Parser_init (T : Txt K mg) : FnR P w K mg base (L2.CX P w) 1 (He.ma K (He.ga K "Parser") "__init__") (spInit (He.ga K "Parser") g_Parser) := by
  obtain ⟨fd, F⟩ := T.F_Parser_init
  have B : Binds K fd P_Parser_init [] := F.bindsN fun _ _ _ _ _ _ us hl => match us, hl with | [_, _], _ => rfl
  refine fnR_of F B (F.ok sc_Parser_init (fun vs H Q E h => ?_) (fun cdv A outer s H vs Q E hr h => ?_))
  · obtain ⟨p, dx, us, fs, rfl, hg, hp, k⟩ := h
    match us, hg with
    | [x0], _ => rfl
  · have hu := hu_of hr
    obtain ⟨p, dx, us, fs, rfl, hg, hp, k⟩ := h
    obtain ⟨x0, rfl⟩ : ∃ x0, us = [x0] := by
      match us, hg with
      | [x0], _ => exact ⟨x0, rfl⟩
    obtain rfl := Option.some.inj (show some _ = some fs from hg)
    refine ⟨_, (pss_cons (ps_fld (pv 0) (pv 1) rfl)
        (pss_one (ps_fld (pv 0) pe_int rfl))), ?_⟩
    refine ⟨_, rfl, _, rfl, p, _, dx, _, rfl, hp, T.c_Parser, T.n_Parser_tokens, (by show 0 < 1000; decide),
      _, rfl, p, _, dx, _, rfl, upd_same, T.c_Parser, T.n_Parser_at, (by show 1 < 1000; decide), ?_⟩
    refine k _ upd_same fun b o e hb => ?_
    rw [upd_ne hb, upd_ne hb]
    exact e

def g_Plan : List V → Option (List (Str × V)) := fun us => match us with
  | [x0, x1, x2] => some [("boxes", x0), ("first_cells", x1), ("steps", x2)]
  | _ => none
theorem ok_Plan_init (T : Txt K mg) : FnR P w K mg base (L2.CX P w) 1 (He.ma K (He.ga K "Plan") "__init__") (spInit (He.ga K "Plan") g_Plan) := by
  obtain ⟨fd, F⟩ := T.F_Plan_init
  have B : Binds K fd P_Plan_init [] := F.bindsN fun _ _ _ _ _ _ us hl => match us, hl with | [_, _, _, _], _ => rfl
  refine fnR_of F B (F.ok sc_Plan_init (fun vs H Q E h => ?_) (fun cdv A outer s H vs Q E hr h => ?_))
  · obtain ⟨p, dx, us, fs, rfl, hg, hp, k⟩ := h
    match us, hg with
    | [x0, x1, x2], _ => rfl
  · have hu := hu_of hr
    obtain ⟨p, dx, us, fs, rfl, hg, hp, k⟩ := h
    obtain ⟨x0, x1, x2, rfl⟩ : ∃ x0 x1 x2, us = [x0, x1, x2] := by
      match us, hg with
      | [x0, x1, x2], _ => exact ⟨x0, x1, x2, rfl⟩
    obtain rfl := Option.some.inj (show some _ = some fs from hg)
    refine ⟨_, (pss_cons (ps_fld (pv 0) (pv 1) rfl)
        (pss_cons (ps_fld (pv 0) (pv 2) rfl)
        (pss_one (ps_fld (pv 0) (pv 3) rfl)))), ?_⟩
    refine ⟨_, rfl, _, rfl, p, _, dx, _, rfl, hp, T.c_Plan, T.n_Plan_boxes, (by show 0 < 1000; decide),
      _, rfl, _, rfl, p, _, dx, _, rfl, upd_same, T.c_Plan, T.n_Plan_first_cells, (by show 1 < 1000; decide),
      _, rfl, _, rfl, p, _, dx, _, rfl, upd_same, T.c_Plan, T.n_Plan_steps, (by show 2 < 1000; decide), ?_⟩
    refine k _ upd_same fun b o e hb => ?_
    rw [upd_ne hb, upd_ne hb, upd_ne hb]
    exact e

end SB

set_option maxHeartbeats 4000000
namespace SB
open PySem PySem.Spec PyProof.Rows L2
open TL (tl)
variable {P : Program} {w : World} {K : PySem.W.Frag} {mg : Str → Option Value} {base : Heap}

theorem ok_SyntaxFault_init (T : Txt K mg) : ∃ fd, FnOk P w K mg base (L2.CX P w) 1 (He.ma K (He.ga K "SyntaxFault") "__init__") fd P_SyntaxFault_init (spOInit (He.ga K "SyntaxFault") gSF) ∧ Binds K fd P_SyntaxFault_init [] := by
  obtain ⟨fd, F⟩ := T.F_SyntaxFault_init
  have B : Binds K fd P_SyntaxFault_init [] := F.bindsN fun _ _ _ _ _ _ us hl => match us, hl with | [_, _, _], _ => rfl
  refine ⟨fd, F.ok sc_SyntaxFault_init (fun vs H Q E h => ?_) (fun cdv A outer s H vs Q E hr h => ?_), B⟩
  · obtain ⟨a, us, fs, rfl, ⟨l, c, rfl, rfl, hl, hc⟩, ha, k⟩ := h
    rfl
  · obtain ⟨a, us, fs, rfl, ⟨l, c, rfl, rfl, hl, hc⟩, ha, k⟩ := h
    refine ⟨_, (pss_cons (ps_expr (pe_binit T.g_BotError T.rd_BotError.1 T.rd_BotError.2 (pa_cons (pv 0) (pa_cons (pe_joined (.cons pe_str (.cons (pe_fmt (pv 1)) (.cons pe_str (.cons (pe_fmt (pv 2)) .nil))))) pa_nil))))
    (pss_cons (ps_ost (pv 0) (pv 1)) (pss_one (ps_ost (pv 0) (pv 2))))), ?_⟩
    have ls : sizeLine = 16777216 := sizeLine_eq
    have e1 := txt_ok hl
    have e2 := txt_ok hc
    have k0 : Str.empty.length = 0 := rfl
    have k1 : (("no plan fits at line " : Str)).length ≤ 40 := by decide +kernel
    have k2 : ((", column " : Str)).length ≤ 40 := by decide +kernel
    refine ⟨_, rfl, _, rfl, (by simp only [app_len]; omega), _, rfl, Or.inr ⟨_, rfl, log_ok hl, _, rfl, (by simp only [app_len]; omega), _, rfl, (by simp only [app_len]; omega), _, rfl, Or.inr ⟨_, rfl, log_ok hc, _, rfl, (by simp only [app_len]; omega), a, _, _, rfl, (by show 1 ≤ 1000; decide), T.x_SyntaxFault, ha, ?_⟩⟩⟩
    refine ⟨_, rfl, _, rfl, a, _, rfl, T.x_SyntaxFault, T.na_SyntaxFault_line, Or.inl ⟨ha, fun d nd ne => ?_⟩⟩
    refine ⟨_, rfl, _, rfl, a, _, rfl, T.x_SyntaxFault, T.na_SyntaxFault_column, Or.inr ⟨d, _, upd_same, (by rw [upd_ne ne]; exact upd_same), (by show 1 ≤ 900; decide), ?_⟩⟩
    refine k d _ nd ne (by rw [upd_ne (Ne.symm ne), upd_same]) upd_same fun b o e hb => ?_
    have hd : b ≠ d := ne_of_none e nd
    rw [upd_ne hd, upd_ne hb, upd_ne hd]
    exact e
theorem ok_CheckFault_init (T : Txt K mg) : ∃ fd, FnOk P w K mg base (L2.CX P w) 1 (He.ma K (He.ga K "CheckFault") "__init__") fd P_CheckFault_init (spOInit (He.ga K "CheckFault") gCF) ∧ Binds K fd P_CheckFault_init [] := by
  obtain ⟨fd, F⟩ := T.F_CheckFault_init
  have B : Binds K fd P_CheckFault_init [] := F.bindsN fun _ _ _ _ _ _ us hl => match us, hl with | [_, _, _, _], _ => rfl
  refine ⟨fd, F.ok sc_CheckFault_init (fun vs H Q E h => ?_) (fun cdv A outer s H vs Q E hr h => ?_), B⟩
  · obtain ⟨a, us, fs, rfl, ⟨z, l, c, rfl, rfl, hz, hl, hc⟩, ha, k⟩ := h
    rfl
  · obtain ⟨a, us, fs, rfl, ⟨z, l, c, rfl, rfl, hz, hl, hc⟩, ha, k⟩ := h
    refine ⟨_, (pss_cons (ps_expr (pe_binit T.g_BotError T.rd_BotError.1 T.rd_BotError.2 (pa_cons (pv 0) (pa_cons (pe_joined (.cons (pe_fmt (pv 1)) (.cons pe_str (.cons (pe_fmt (pv 2)) (.cons pe_str (.cons (pe_fmt (pv 3)) .nil)))))) pa_nil))))
    (pss_cons (ps_ost (pv 0) (pv 1)) (pss_cons (ps_ost (pv 0) (pv 2)) (pss_one (ps_ost (pv 0) (pv 3)))))), ?_⟩
    have ls : sizeLine = 16777216 := sizeLine_eq
    have e1 := txt_ok hl
    have e2 := txt_ok hc
    have k0 : Str.empty.length = 0 := rfl
    have k1 : ((" at line " : Str)).length ≤ 40 := by decide +kernel
    have k2 : ((", column " : Str)).length ≤ 40 := by decide +kernel
    refine ⟨_, rfl, _, rfl, Or.inl ⟨_, rfl, (by omega), _, rfl, (by simp only [app_len]; omega), _, rfl, (by simp only [app_len]; omega), _, rfl, Or.inr ⟨_, rfl, log_ok hl, _, rfl, (by simp only [app_len]; omega), _, rfl, (by simp only [app_len]; omega), _, rfl, Or.inr ⟨_, rfl, log_ok hc, _, rfl, (by simp only [app_len]; omega), a, _, _, rfl, (by show 1 ≤ 1000; decide), T.x_CheckFault, ha, ?_⟩⟩⟩⟩
    refine ⟨_, rfl, _, rfl, a, _, rfl, T.x_CheckFault, T.na_CheckFault_reason, Or.inl ⟨ha, fun d nd ne => ?_⟩⟩
    refine ⟨_, rfl, _, rfl, a, _, rfl, T.x_CheckFault, T.na_CheckFault_line, Or.inr ⟨d, _, upd_same, (by rw [upd_ne ne]; exact upd_same), (by show 1 ≤ 900; decide), ?_⟩⟩
    refine ⟨_, rfl, _, rfl, a, _, rfl, T.x_CheckFault, T.na_CheckFault_column, Or.inr ⟨d, _, (by rw [upd_ne (Ne.symm ne), upd_same]), upd_same, (by show 2 ≤ 900; decide), ?_⟩⟩
    refine k d _ nd ne (by rw [upd_ne (Ne.symm ne), upd_ne (Ne.symm ne), upd_same]) upd_same fun b o e hb => ?_
    have hd : b ≠ d := ne_of_none e nd
    rw [upd_ne hd, upd_ne hd, upd_ne hb, upd_ne hd]
    exact e
end SB

set_option maxHeartbeats 4000000
namespace SB
open PySem PySem.Spec PyProof.Rows L2
open TL (tl)
open Evl
variable {P : Program} {w : World} {K : PySem.W.Frag} {mg : Str → Option Value} {base : Heap}


/-- is_valid_number -/
def spVN : Sp := fun vs H Q _ => ∃ z : Str, vs = [.str z] ∧ z.length ≤ big ∧ 0 < z.length ∧ RetV (.bl (validNum (tl z))) H Q
theorem zero_str : ("0" : Str) = mkS [48] := by decide +kernel
theorem eq_zero (z : Str) : decide (z = ("0" : Str)) = decide (tl z = [48]) := by
  apply decide_eq_decide.mpr
  rw [zero_str]
  constructor
  · intro h; rw [h]; rfl
  · intro h; rw [← mkS_tl z, h]
theorem letters_name : letters = ("abcdefghijklmnopqrstuvwxyz" : Str) := rfl
theorem digits_name : digits = ("0123456789" : Str) := rfl
/-- kind_of -/
def spKind (K : PySem.W.Frag) : Sp := fun vs H Q E => ∃ (z : Str) (l c : Nat), vs = [.str z, .int l, .int c] ∧ z.length ≤ big ∧ 0 < z.length ∧ l ≤ big ∧ c ≤ big ∧
  (∀ k, kindOf (tl z) = some k → RetV (.str k) H Q) ∧ (kindOf (tl z) = none → Fails H E (He.ga K "SyntaxFault") (sfF l c))
theorem kind_eq (z : Str) {ch : Nat} {r : List Nat} (hl : tl z = ch :: r) : kindOf (tl z) = if decide (z ∈ keyw) || decide (z ∈ sign) then some z else if isL ch && decide ((tl z).length ≤ 8) then some "name" else if isD ch && validNum (tl z) then some "number" else none := by
  show (if decide (mkS (tl z) ∈ keyw) || decide (mkS (tl z) ∈ sign) then some (mkS (tl z)) else _) = _
  rw [mkS_tl, hl]
theorem small_of {n : Nat} (h : n ≤ big) : smallI (n : Int) := ⟨by omega, by have : big = 1000000 := rfl; omega⟩

theorem ok_is_valid_number (T : Txt K mg) : FnR P w K mg base (L2.CX P w) 1 (He.ga K "is_valid_number") spVN := by
  obtain ⟨fd, F⟩ := T.F_is_valid_number
  have B : Binds K fd P_is_valid_number [] := F.bindsN fun _ _ _ _ _ _ us hl => match us, hl with | [_], _ => rfl
  refine fnR_of F B (F.ok sc_is_valid_number (fun vs H Q E h => ?_) (fun cdv A outer s H vs Q E hr h => ?_))
  · obtain ⟨z, rfl, _⟩ := h
    rfl
  · have hu := hu_of hr
    obtain ⟨z, rfl, hz, hp, k⟩ := h
    refine ⟨_, (pss_one (ps_ret (pe_and (pe_cmpR op_le (pe_callB call_len_str (by rfl) T.b_len (by decide +kernel) (pa_cons (pv 0) pa_nil)) (pe_gi T.v_LONGEST_NUMBER) (nomark _)) (pe_one (pe_or (pe_cmpR op_eq (pv 0) pe_str (nomark _)) (pe_one (pe_cmpR op_ne (pe_ix ix_str (pv 0) pe_int (fun _ _ => rfl)) pe_str (nomark _)))))))), ?_⟩
    obtain ⟨c, r, hl⟩ := hd_of hp
    have hi : (tl z)[0]? = some c := by rw [hl]; rfl
    have ls := big_line hz
    refine s_ret (ev_is (ev_andV (ev_op (ev_lenS (ev_var rfl) ls) ev_c rv_I0) fun _ => ev_orV (ev_op (ev_var rfl) ev_c (rv_eq rfl)) fun _ => ev_op (ev_op (ev_var rfl) ev_c (rv_ixS' ls hi)) ev_c (rv_ne rfl)) ?_) k
    rw [str_eq, str_eq, eq_zero, zero_str, one_eq]
    show _ = V.bl (decide ((tl z).length ≤ 2) && (decide (tl z = [48]) || !decide ((tl z).head? = some 48)))
    rw [len_tl, hl]
    congr 2
    · apply decide_eq_decide.mpr; omega
    · congr 2
      apply decide_eq_decide.mpr
      simp

theorem ok_kind_of (T : Txt K mg) : FnR P w K mg base (L2.CX P w) 3 (He.ga K "kind_of") (spKind K) := by
  obtain ⟨fd_SyntaxFault, GI_SyntaxFault, BI_SyntaxFault⟩ := ok_SyntaxFault_init (P := P) (w := w) (base := base) T
  have G_is_valid_number := ok_is_valid_number (P := P) (w := w) (base := base) T
  have KP_is_valid_number : PySem.W.keepIn K (.ref (He.ga K "is_valid_number")) = true := by
    obtain ⟨_, F⟩ := T.F_is_valid_number
    exact F.kp
  obtain ⟨fd, F⟩ := T.F_kind_of
  have B : Binds K fd P_kind_of [] := F.bindsN fun _ _ _ _ _ _ us hl => match us, hl with | [_, _, _], _ => rfl
  refine fnR_of F B (F.ok sc_kind_of (fun vs H Q E h => ?_) (fun cdv A outer s H vs Q E hr h => ?_))
  · obtain ⟨z, l, c, rfl, _⟩ := h
    rfl
  · have hu := hu_of hr
    obtain ⟨z, l, c, rfl, hz, hp, hlb, hc, k, kE⟩ := h
    refine ⟨_, (pss_cons (ps_if (pw_or (pt_cmpR op_in_seq (pv 0) (pe_gr T.g_KEYWORDS) (by rfl)) (pw_or1 (pt_cmpR op_in_seq (pv 0) (pe_gr T.g_SIGNS) (by rfl)))).pt (pss_one (ps_ret (pv 0))) pss_nil)
        (pss_cons (ps_if (pw_and (pt_cmpR op_in_sign (pe_ix ix_str (pv 0) pe_int (fun _ _ => rfl)) (pe_gs T.v_LETTERS) (by rfl)) (pw_and1 (pt_cmpR op_le (pe_callB call_len_str (by rfl) T.b_len (by decide +kernel) (pa_cons (pv 0) pa_nil)) (pe_gi T.v_LONGEST_NAME) (nomark _)))).pt (pss_one (ps_ret (pe_gs T.v_NAME))) pss_nil)
        (pss_cons (ps_if (pw_and (pt_cmpR op_in_sign (pe_ix ix_str (pv 0) pe_int (fun _ _ => rfl)) (pe_gs T.v_DIGITS) (by rfl)) (pw_and1 (pt_val (pe_callR G_is_valid_number (hr.mono (by decide)) T.g_is_valid_number KP_is_valid_number px (pa_cons (pv 0) pa_nil))))).pt (pss_one (ps_ret (pe_gs T.v_NUMBER))) pss_nil)
        (pss_one (ps_raise rfl (takes_of rfl rfl rfl rfl) (pmk_oex T.x_SyntaxFault T.i_SyntaxFault T.ti_SyntaxFault GI_SyntaxFault (hr.mono (by decide)) BI_SyntaxFault .nil passL rfl T.g_SyntaxFault (pa_cons (pv 1) (pa_cons (pv 2) pa_nil)))))))), ?_⟩
    obtain ⟨ch, r, hl⟩ := hd_of hp
    have hi : (tl z)[0]? = some ch := by rw [hl]; rfl
    have ls := big_line hz
    have eK := kind_eq z hl
    refine q_when (b := decide (z ∈ keyw) || decide (z ∈ sign)) (et_or (et_test (ev_is (ev_op (ev_var rfl) ev_c (rv_isT (T.t_KEYWORDS _) rfl (flat_strs keyw))) (congrArg V.bl (inV_strs z keyw))))
      fun _ => et_test (ev_is (ev_op (ev_var rfl) ev_c (rv_isT (T.t_SIGNS _) rfl (flat_strs sign))) (congrArg V.bl (inV_strs z sign)))) (fun hb H1 e1 => ?_) (fun hb H1 e1 => ?_)
    · exact s_ret (ev_var rfl) fun H2 e2 => k z (by rw [eK, hb]; rfl) H2 (e1.trans e2)
    rw [hb] at eK
    refine q_when (b := isL ch && decide ((tl z).length ≤ 8)) (et_and (et_test (ev_is (ev_op (ev_op (ev_var rfl) ev_c (rv_ixS' ls hi)) ev_c rv_inS) (congrArg V.bl (mem_letters ch))))
      fun _ => et_test (ev_is (ev_op (ev_lenS (ev_var rfl) ls) ev_c rv_I0) ?_)) (fun hb H2 e2 => ?_) (fun hb H2 e2 => ?_)
    · show V.bl _ = V.bl _
      rw [len_tl]
      congr 1
      apply decide_eq_decide.mpr
      omega
    · exact s_ret ev_c fun H3 e3 => k "name" (by rw [eK, hb]; rfl) H3 ((e1.trans e2).trans e3)
    rw [hb] at eK
    refine q_when (b := isD ch && validNum (tl z)) (et_and (et_test (ev_is (ev_op (ev_op (ev_var rfl) ev_c (rv_ixS' ls hi)) ev_c rv_inS) (congrArg V.bl (mem_digits ch))))
      fun _ => et_B (ev_callR (ea_cons (ev_var rfl) ea_nil) fun H3 e3 Q3 q3 => ⟨z, rfl, hz, hp, q3⟩)) (fun hb H3 e3 => ?_) (fun hb H3 e3 => ?_)
    · exact s_ret ev_c fun H4 e4 => k "number" (by rw [eK, hb]; rfl) H4 (((e1.trans e2).trans e3).trans e4)
    rw [hb] at eK
    exact s_raiseO (ea_cons (ev_var rfl) (ea_cons (ev_var rfl) ea_nil)) ⟨l, c, rfl, rfl, small_of hlb, small_of hc⟩ (by show 2 ≤ 1000; decide) (Fails.mono (kE eK) ((e1.trans e2).trans e3))


/-- longest_text: the row z, at the column c -/
def spLong : Sp := fun vs H Q _ => ∃ (z : Str) (c : Nat), vs = [.str z, .int c] ∧ z.length ≤ big ∧ c < z.length ∧ RetV (.str (mkS (longest ((tl z).drop c)))) H Q
/-- the end of the signs of a kind from c on -/
def runEnd (p : Nat → Bool) (l : List Nat) (c : Nat) : Nat := c + ((l.drop c).takeWhile p).length
theorem tw_get {p : Nat → Bool} : ∀ {m : List Nat} {j : Nat}, j < (m.takeWhile p).length → ∃ x, m[j]? = some x ∧ p x = true
  | [], j, h => by simp at h
  | a :: r, j, h => by
    by_cases q : p a = true
    · rw [List.takeWhile_cons_of_pos q, List.length_cons] at h
      match j, h with
      | 0, _ => exact ⟨a, rfl, q⟩
      | j + 1, h => exact tw_get (m := r) (j := j) (by omega)
    · rw [List.takeWhile_cons_of_neg q] at h
      simp at h
theorem run_more {p : Nat → Bool} {l : List Nat} {c e : Nat} (hc : c ≤ e) (he : e < runEnd p l c) : ∃ x, l[e]? = some x ∧ p x = true := by
  unfold runEnd at he
  obtain ⟨x, h1, h2⟩ := tw_get (p := p) (m := l.drop c) (j := e - c) (by omega)
  rw [List.getElem?_drop, show c + (e - c) = e by omega] at h1
  exact ⟨x, h1, h2⟩
theorem run_stop {p : Nat → Bool} {l : List Nat} {c : Nat} {x : Nat} (h : l[runEnd p l c]? = some x) : p x = false := by
  unfold runEnd at h
  rw [← List.getElem?_drop] at h
  revert h
  generalize l.drop c = m
  intro h
  induction m with
  | nil => simp at h
  | cons a r ih =>
    by_cases q : p a = true
    · rw [List.takeWhile_cons_of_pos q, List.length_cons] at h
      exact ih (by simpa using h)
    · rw [List.takeWhile_cons_of_neg q] at h
      simp at h
      rw [← h]
      simpa using q


/-- the loop's body, as it is read -/
abbrev tLongBody : TS := tSeq (tAsg (tVar 1) (gName 3)) (tSeq
  (tWhile (tAnd (tTest (tOp (rI0 fun i j => V.bl (decide (i < j))) (tVar 3) (tCB (fun xs H Q => ∃ z, xs = [V.str z] ∧ z.length ≤ sizeLine ∧ Q (V.int z.length) H) (tCons (tVar 0) tNil))))
      (tTest (tOp (fun x y H Q => ∃ (c : Nat) (z : Str), x = V.str ⟨#[c]⟩ ∧ y = V.str z ∧ Q (V.bl (decide (c ∈ z.cps.toList))) H) (tOp rIxS (tVar 0) (tVar 3)) (tVar 2))))
    (tAug 3 (tC (V.int 1)) (ipI fun i j => i + j)))
  (tIfS (tTest (tOp (rI0 fun i j => V.bl (decide (j < i))) (tVar 3) (tVar 1))) (tRet (tSl rSlS (tVar 0) (tPart (tVar 1)) (tPart (tVar 3)))) tNext))
theorem sIx_nat {n d k : Nat} (h : k ≤ n) : HT.sIx n d (some (k : Int)) = k := by
  rw [HT.sIx_nat]
  exact Nat.min_eq_left h
theorem run_le (p : Nat → Bool) (l : List Nat) (c : Nat) (h : c ≤ l.length) : runEnd p l c ≤ l.length := by
  have := takeWhile_le p (l.drop c)
  rw [List.length_drop] at this
  unfold runEnd
  omega
theorem cut_run {p : Nat → Bool} {z : Str} {c : Nat} (h : c ≤ z.length) : cutS z (some (c : Int)) (some ((runEnd p (tl z) c : Nat) : Int)) = mkS (((tl z).drop c).takeWhile p) := by
  have hl := run_le p (tl z) c (by rw [len_tl]; exact h)
  rw [len_tl] at hl
  unfold cutS
  rw [show HT.sIx z.length 0 (some (c : Int)) = c from sIx_nat h, show HT.sIx z.length z.length (some ((runEnd p (tl z) c : Nat) : Int)) = runEnd p (tl z) c from sIx_nat hl]
  unfold mkS runEnd
  rw [show c + (((tl z).drop c).takeWhile p).length - c = (((tl z).drop c).takeWhile p).length by omega]
  exact congrArg (fun l => Str.mk (List.toArray l)) (takeWhile_take p ((tl z).drop c))
theorem run_test {p : Nat → Bool} {z : Str} {c e : Nat} (hc : c ≤ e) (he : e ≤ runEnd p (tl z) c) (hz : c ≤ z.length) : (decide ((e : Int) < (z.length : Int)) && (((tl z)[e]?.map p).getD false)) = decide (e < runEnd p (tl z) c) := by
  have hl := run_le p (tl z) c (by rw [len_tl]; exact hz)
  rw [len_tl] at hl
  by_cases q : e < runEnd p (tl z) c
  · obtain ⟨x, h1, h2⟩ := run_more hc q
    rw [h1, decide_eq_true q, decide_eq_true (by omega : (e : Int) < z.length)]
    simpa using h2
  · have eq : e = runEnd p (tl z) c := by omega
    rw [decide_eq_false q]
    cases h : (tl z)[e]? with
    | none => simp
    | some x =>
      have h2 : (tl z)[runEnd p (tl z) c]? = some x := by rw [← eq]; exact h
      have := run_stop h2
      simp [this]

theorem ok_longest_text (T : Txt K mg) : FnR P w K mg base (L2.CX P w) 1 (He.ga K "longest_text") spLong := by
  obtain ⟨fd, F⟩ := T.F_longest_text
  have B : Binds K fd P_longest_text [] := F.bindsN fun _ _ _ _ _ _ us hl => match us, hl with | [_, _], _ => rfl
  refine fnR_of F B (F.ok sc_longest_text (fun vs H Q E h => ?_) (fun cdv A outer s H vs Q E hr h => ?_))
  · obtain ⟨z, c, rfl, _⟩ := h
    rfl
  · have hu := hu_of hr
    obtain ⟨z, c, rfl, hz, hc, k⟩ := h
    refine ⟨_, (pss_cons (ps_for (passes_of rfl) rfl (pi_tup (pe_tup (pa_cons (pe_gs T.v_LETTERS) (pa_cons (pe_gs T.v_DIGITS) pa_nil)))) (pg_name (i := 2) sc_longest_text.nd rfl (by first | exact Or.inl rfl | exact Or.inr rfl)) (pss_cons (ps_set (i := 3) sc_longest_text.nd rfl (by first | exact Or.inl rfl | exact Or.inr rfl) (pv 1))
        (pss_cons (ps_while (passes_of rfl) (pw_and (pt_cmpR op_lt (pv 3) (pe_callB call_len_str (by rfl) T.b_len (by decide +kernel) (pa_cons (pv 0) pa_nil)) (nomark _)) (pw_and1 (pt_cmpR op_in_sign (pe_ix ix_str (pv 0) (pv 3) (fun _ _ => rfl)) (pv 2) (by rfl)))).pt (pss_one (ps_aug (i := 3) sc_longest_text.nd rfl (by first | exact Or.inl rfl | exact Or.inr rfl) pe_int ip_add)))
        (pss_one (ps_if (pt_cmpR op_gt (pv 3) (pv 1) (nomark _)) (pss_one (ps_ret (pe_slice sl_str (pv 0) (po_some (pv 1)) (po_some (pv 3))))) pss_nil)))))
        (pss_one (ps_ret (pe_ix ix_str (pv 0) (pv 1) (fun _ _ => rfl))))), ?_⟩
    have ls := big_line hz
    have turn : ∀ (wd : Str) (p : Nat → Bool), (∀ x, decide (x ∈ wd.cps.toList) = p x) → ∀ (b : Option V) (H1 : Hp) (D : L2.Ends), Ex H H1 → D.rt = Q →
        (((tl z).drop c).takeWhile p ≠ [] → mkS (((tl z).drop c).takeWhile p) = mkS (longest ((tl z).drop c))) →
        (((tl z).drop c).takeWhile p = [] → ∀ (e : Option V) H2, Ex H H2 → Ex H1 H2 → D.nx [some (.str z), some (.int c), some (.str wd), e] H2) → tLongBody D [some (.str z), some (.int c), some (.str wd), b] H1 := by
      intro wd p hp b H1 D e1 eD hy hn
      refine q_asg (ev_var rfl) fun H2 e2 => ?_
      refine q_while (fun m σ' H' => Ex H1 H' ∧ ∃ e : Nat, σ' = [some (.str z), some (.int c), some (.str wd), some (.int e)] ∧ c ≤ e ∧ e ≤ runEnd p (tl z) c ∧ m = runEnd p (tl z) c - e) _
        ⟨e2, c, rfl, Nat.le_refl c, Nat.le_add_right _ _, rfl⟩ ?_
      rintro m σ' H' ⟨e3, e, rfl, h1, h2, rfl⟩
      refine ⟨decide (e < runEnd p (tl z) c), et_is (et_and (b := ((tl z)[e]?.map p).getD false) (et_test (ev_op (ev_var rfl) (ev_lenS (ev_var rfl) ls) rv_I0)) fun hlt => ?_) (run_test h1 h2 (Nat.le_of_lt hc)), fun hb H4 e4 => ?_, fun hb H4 e4 => ?_⟩
      · have hlt2 : (e : Int) < (z.length : Int) := of_decide_eq_true hlt
        have hx : e < (tl z).length := by rw [len_tl]; omega
        refine et_test (ev_is (ev_op (ev_op (ev_var rfl) (ev_var rfl) (rv_ixS' (c := (tl z)[e]) ls (List.getElem?_eq_getElem hx))) (ev_var rfl) rv_inS) ?_)
        rw [hp, List.getElem?_eq_getElem hx]
        rfl
      · have hb2 : e < runEnd p (tl z) c := of_decide_eq_true hb
        refine ⟨fun σ2 H2 => Ex H1 H2 ∧ ∃ e' : Nat, σ2 = [some (.str z), some (.int c), some (.str wd), some (.int e')] ∧ c ≤ e' ∧ e' ≤ runEnd p (tl z) c ∧ e' = e + 1, ?_, ?_⟩
        · rintro σ2 H2 ⟨a, e', b1, b2, b3, b4⟩
          exact ⟨_, by omega, a, e', b1, b2, b3, rfl⟩
        · exact s_aug rfl ev_c fun H5 e5 => ⟨(e3.trans e4).trans e5, e + 1, by simp, by omega, by omega, rfl⟩
      · have hb2 : ¬ e < runEnd p (tl z) c := of_decide_eq_false hb
        have ee : e = runEnd p (tl z) c := by omega
        subst ee
        refine s_when (et_test (ev_op (ev_var rfl) (ev_var rfl) rv_I0)) (fun hg H5 e5 => ?_) (fun hg H5 e5 => ?_)
        · have hg2 : (c : Int) < (runEnd p (tl z) c : Nat) := of_decide_eq_true hg
          refine s_ret (ev_slS (ev_var rfl) (eo_some (ev_var rfl)) (eo_some (ev_var rfl)) ls) fun H6 e6 => ?_
          have ne : ((tl z).drop c).takeWhile p ≠ [] := by
            intro q
            unfold runEnd at hg2
            rw [q] at hg2
            simp at hg2
          rw [cut_run (Nat.le_of_lt hc), hy ne]
          show D.rt _ _
          rw [eD]
          exact k _ ((((e1.trans e3).trans e4).trans e5).trans e6)
        · have hg2 : ¬ (c : Int) < (runEnd p (tl z) c : Nat) := of_decide_eq_false hg
          have ne : ((tl z).drop c).takeWhile p = [] := by
            cases q : ((tl z).drop c).takeWhile p with
            | nil => rfl
            | cons a r =>
              exfalso
              apply hg2
              unfold runEnd
              rw [q]
              simp
              omega
          exact hn ne _ _ ((((e1.trans e3).trans e4)).trans e5) ((e3.trans e4).trans e5)
    -- for characters in (LETTERS, DIGITS)
    refine q_forNU (xs := [.str letters, .str digits]) (eu_tup (ea_cons ev_c (ea_cons ev_c ea_nil)) (by decide)) (fun p i σ' H' => Ex H H' ∧ H' p = some (.tup [.str letters, .str digits]) ∧ (∃ a b, σ' = [some (.str z), some (.int c), a, b]) ∧
      (0 < i → ((tl z).drop c).takeWhile isL = []) ∧ (1 < i → ((tl z).drop c).takeWhile isD = []))
      (fun p H1 hp e h1 => ⟨e, h1, ⟨none, none, rfl⟩, fun h => absurd h (by omega), fun h => absurd h (by omega)⟩) (fun p i σ' H' _ ⟨_, h1, _⟩ => st_of h1) ?_ ?_
    · rintro p i x σ' H' hx ⟨e, h1, ⟨a, b, rfl⟩, w1, w2⟩
      match i, hx with
      | 0, hx =>
        obtain rfl : V.str letters = x := Option.some.inj hx
        refine turn letters isL mem_letters b H' _ e rfl (fun ne => by rw [longest_L ne]) (fun ne e' H2 e3 e4 => ⟨e3, e4 _ _ h1, ⟨_, _, rfl⟩, fun _ => ne, fun h => absurd h (by omega)⟩)
      | 1, hx =>
        obtain rfl : V.str digits = x := Option.some.inj hx
        have n1 := w1 (by omega)
        refine turn digits isD mem_digits b H' _ e rfl (fun ne => by rw [longest_D n1 ne]) (fun ne e' H2 e3 e4 => ⟨e3, e4 _ _ h1, ⟨_, _, rfl⟩, fun _ => n1, fun _ => ne⟩)
      | i + 2, hx => simp at hx
    · rintro p σ' H' ⟨e, h1, ⟨a, b, rfl⟩, w1, w2⟩
      have n1 := w1 (by show 0 < 2; decide)
      have n2 := w2 (by show 1 < 2; decide)
      have hx : c < (tl z).length := by rw [len_tl]; exact hc
      refine s_ret (ev_op (ev_var rfl) (ev_var rfl) (rv_ixS' (c := (tl z)[c]) ls (List.getElem?_eq_getElem hx))) fun H2 e2 => ?_
      have e3 : mkS (longest ((tl z).drop c)) = ⟨#[(tl z)[c]]⟩ := by
        rw [longest_1 n1 n2, List.drop_eq_getElem_cons hx]
        rfl
      rw [← e3]
      exact k _ (e.trans e2)


def ToksAt (K : PySem.W.Frag) (H : Hp) (v : V) (ts : List Tk) : Prop := LAt H (TokAt K H) v ts
/-- how a def that lexes ends: r is the mirror's answer -/
def Lexes (K : PySem.W.Frag) (H : Hp) (Q : VK) (E : XK) (r : Res) : Prop := (∀ ts, r = .ok ts → ∀ v H', Ex H H' → ToksAt K H' v ts → Q v H') ∧ (∀ l c, r = .error (l, c) → Fails H E (He.ga K "SyntaxFault") (sfF (l : Nat) (c : Nat)))
def spRow (K : PySem.W.Frag) : Sp := fun vs H Q E => ∃ (z : Str) (l : Nat), vs = [.str z, .int l] ∧ z.length ≤ big ∧ l ≤ big ∧ Lexes K H Q E (readRow z.length (tl z) l 0)

theorem ok_read_row (T : Txt K mg) : FnR P w K mg base (L2.CX P w) 4 (He.ga K "read_row") (spRow K) := by
  have G_longest_text := ok_longest_text (P := P) (w := w) (base := base) T
  have KP_longest_text : PySem.W.keepIn K (.ref (He.ga K "longest_text")) = true := by
    obtain ⟨_, F⟩ := T.F_longest_text
    exact F.kp
  have G_Token_init := ok_Token_init (P := P) (w := w) (base := base) T
  have G_kind_of := ok_kind_of (P := P) (w := w) (base := base) T
  have KP_kind_of : PySem.W.keepIn K (.ref (He.ga K "kind_of")) = true := by
    obtain ⟨_, F⟩ := T.F_kind_of
    exact F.kp
  obtain ⟨fd, F⟩ := T.F_read_row
  have B : Binds K fd P_read_row [] := F.bindsN fun _ _ _ _ _ _ us hl => match us, hl with | [_, _], _ => rfl
  refine fnR_of F B (F.ok sc_read_row (fun vs H Q E h => ?_) (fun cdv A outer s H vs Q E hr h => ?_))
  · obtain ⟨z, l, rfl, _⟩ := h
    rfl
  · have hu := hu_of hr
    obtain ⟨z, l, rfl, hz, hlb, k⟩ := h
    refine ⟨_, (pss_cons (ps_set (i := 2) sc_read_row.nd rfl (by first | exact Or.inl rfl | exact Or.inr rfl) (pe_lst pa_nil))
        (pss_cons (ps_set (i := 3) sc_read_row.nd rfl (by first | exact Or.inl rfl | exact Or.inr rfl) pe_int)
        (pss_cons (ps_while (passes_of rfl) (pt_cmpR op_lt (pv 3) (pe_callB call_len_str (by rfl) T.b_len (by decide +kernel) (pa_cons (pv 0) pa_nil)) (nomark _)) (pss_one (ps_if (pt_cmpR op_eq (pe_ix ix_str (pv 0) (pv 3) (fun _ _ => rfl)) pe_str (nomark _)) (pss_one (ps_aug (i := 3) sc_read_row.nd rfl (by first | exact Or.inl rfl | exact Or.inr rfl) pe_int ip_add)) (pss_cons (ps_set (i := 4) sc_read_row.nd rfl (by first | exact Or.inl rfl | exact Or.inr rfl) (pe_callR G_longest_text (hr.mono (by decide)) T.g_longest_text KP_longest_text px (pa_cons (pv 0) (pa_cons (pv 3) pa_nil))))
        (pss_cons (ps_expr (pe_bm PySem.F.plainAttrs_list PySem.F.slot_list_append PySem.F.type_list_append mt_append (pv 2) (pa_cons (StX.pe_makeR T.k_Token G_Token_init (hr.mono (by decide)) (by rfl) T.g_Token px (pa_cons (pe_callR G_kind_of (hr.mono (by decide)) T.g_kind_of KP_kind_of px (pa_cons (pv 4) (pa_cons (pv 1) (pa_cons (pv 3) pa_nil)))) (pa_cons (pv 4) (pa_cons (pv 1) (pa_cons (pv 3) pa_nil))))) pa_nil)))
        (pss_one (ps_aug (i := 3) sc_read_row.nd rfl (by first | exact Or.inl rfl | exact Or.inr rfl) (pe_callB call_len_str (by rfl) T.b_len (by decide +kernel) (pa_cons (pv 4) pa_nil)) ip_add)))))))
        (pss_one (ps_ret (pv 2)))))), ?_⟩
    have ls := big_line hz
    have bl : big < sizeLine := by decide
    refine q_asgL (el_lst ea_nil (by decide)) fun p H1 hp e1 h1 => ?_
    refine q_asg ev_c fun H2 e2 => ?_
    refine q_while (fun m σ' H' => ∃ (vs : List V) (acc : List Tk) (c n : Nat) (b : Option V), σ' = [some (.str z), some (.int l), some (.ref p), some (.int c), b] ∧ Ex H H' ∧ H' p = some (.lst vs) ∧ All (TokAt K H') vs acc ∧
        c ≤ z.length ∧ acc.length ≤ c ∧ z.length - c ≤ n ∧ readRow z.length (tl z) l 0 = withFront acc (readRow n ((tl z).drop c) l c) ∧ m = z.length - c) _
      ⟨[], [], 0, z.length, none, rfl, e1.trans e2, e2 _ _ h1, .nil, Nat.zero_le _, Nat.le_refl _, Nat.le_refl _, by rw [withFront_nil, List.drop_zero], rfl⟩ ?_
    rintro m σ' H' ⟨vs, acc, c, n, b, rfl, e3, h3, ht, hc, hal, hn, hr', rfl⟩
    refine ⟨decide ((c : Int) < (z.length : Int)), et_test (ev_op (ev_var rfl) (ev_lenS (ev_var rfl) ls) rv_I0), fun hb H4 e4 => ?_, fun hb H4 e4 => ?_⟩
    · have hlt : (c : Int) < (z.length : Int) := of_decide_eq_true hb
      have hx : c < (tl z).length := by rw [len_tl]; omega
      obtain ⟨x, hxe⟩ : ∃ x, (tl z)[c]? = some x := ⟨_, List.getElem?_eq_getElem hx⟩
      have hd : (tl z).drop c = x :: (tl z).drop (c + 1) := by
        rw [List.drop_eq_getElem_cons hx]
        rw [List.getElem?_eq_getElem hx] at hxe
        rw [Option.some.inj hxe]
      obtain ⟨n, rfl⟩ : ∃ n', n = n' + 1 := ⟨n - 1, by omega⟩
      refine ⟨fun σ2 H2 => ∃ (vs : List V) (acc : List Tk) (c' n : Nat) (b : Option V), σ2 = [some (.str z), some (.int l), some (.ref p), some (.int c'), b] ∧ Ex H H2 ∧ H2 p = some (.lst vs) ∧ All (TokAt K H2) vs acc ∧
        c' ≤ z.length ∧ acc.length ≤ c' ∧ z.length - c' ≤ n ∧ readRow z.length (tl z) l 0 = withFront acc (readRow n ((tl z).drop c') l c') ∧ c < c', ?_, ?_⟩
      · rintro σ2 H2 ⟨vs, acc, c', n, b, q1, q2, q3, q4, q5, q6, q7, q8, q9⟩
        exact ⟨z.length - c', by omega, vs, acc, c', n, b, q1, q2, q3, q4, q5, q6, q7, q8, rfl⟩
      refine s_if (b := decide (x = 32)) (et_test (ev_is (ev_op (ev_op (ev_var rfl) (ev_var rfl) (rv_ixS' ls hxe)) ev_c (rv_eq rfl)) ?_)) (fun hsp H5 e5 => ?_) (fun hsp H5 e5 => ?_)
      · rw [str_eq, blank_str, one_eq]
      · have hx32 : x = 32 := of_decide_eq_true hsp
        subst hx32
        rw [hd, readRow_blank] at hr'
        exact s_aug rfl ev_c fun H6 e6 => ⟨vs, acc, c + 1, n, b, rfl, ((e3.trans e4).trans e5).trans e6, ((e4.trans e5).trans e6) _ _ h3, ht.imp fun v x h => h.mono ((e4.trans e5).trans e6), by omega, by omega, by omega, hr', Nat.lt_succ_self c⟩
      · have hx32 : x ≠ 32 := of_decide_eq_false hsp
        have e45 := e4.trans e5
        have hlp := longest_pos x ((tl z).drop (c + 1))
        have hll := longest_le (x :: (tl z).drop (c + 1))
        have hdl : (x :: (tl z).drop (c + 1)).length = z.length - c := by rw [← hd, List.length_drop, len_tl]
        rw [← hd] at hlp hll hdl
        refine q_asg (ev_callR (ea_cons (ev_var rfl) (ea_cons (ev_var rfl) ea_nil)) fun H6 e6 Q6 q6 => ⟨z, c, rfl, hz, by omega, q6⟩) fun H6 e6 => ?_
        have hkz : (mkS (longest ((tl z).drop c))).length = (longest ((tl z).drop c)).length := mkS_len _
        cases hk : kindOf (longest ((tl z).drop c)) with
        | none =>
          rw [hd] at hk hr'
          rw [readRow_bad hx32 hk] at hr'
          rw [← hd] at hk
          have kE := k.2 l c (by rw [hr']; rfl)
          refine ⟨_, rfl, Or.inl ⟨rfl, _, sq_of ((e45.trans e6) _ _ h3)⟩, ?_⟩
          refine ⟨_, rfl, _, rfl, _, rfl, ?_⟩
          exact ⟨_, l, c, rfl, by omega, by omega, hlb, by omega, (fun kk hkk => by
            rw [show tl (mkS (longest ((tl z).drop c))) = longest ((tl z).drop c) from rfl, hk] at hkk
            exact nomatch hkk), fun _ => kE.mono ((e3.trans e45).trans e6)⟩
        | some kd =>
          rw [hd] at hk hr'
          rw [readRow_tok hx32 hk] at hr'
          rw [← hd] at hk hr'
          refine q_appP (P := fun v H2 => TokAt K H2 v ⟨kd, mkS (longest ((tl z).drop c)), l, c⟩) ((e45.trans e6) _ _ h3) (ev_var rfl) (ep_make (ea_cons (ev_callR (z := .str kd) (ea_cons (ev_var rfl) (ea_cons (ev_var rfl) (ea_cons (ev_var rfl) ea_nil)))
              fun H7 e7 Q7 q7 => ⟨_, l, c, rfl, by omega, by omega, hlb, by omega, fun kk hkk => ?_, fun hkk => ?_⟩) (ea_cons (ev_var rfl) (ea_cons (ev_var rfl) (ea_cons (ev_var rfl) ea_nil)))) rfl fun x dx H7 e7 h7 => ⟨x, dx, rfl, h7⟩) (by rw [ht.len]; omega) fun v H7 e7 hv => ?_
          · rw [show tl (mkS (longest ((tl z).drop c))) = longest ((tl z).drop c) from rfl, hk] at hkk
            cases hkk
            exact q7
          · rw [show tl (mkS (longest ((tl z).drop c))) = longest ((tl z).drop c) from rfl, hk] at hkk
            cases hkk
          have e47 := (e45.trans e6).trans e7
          have h7 := e47 _ _ h3
          refine s_aug rfl (ev_lenS (ev_var rfl) (by omega)) fun H8 e8 => ?_
          have ex : Ex H (upd H7 p (.lst (vs ++ [v]))) := Ex.mut (e3.trans e47) hp
          refine ⟨vs ++ [v], acc ++ [⟨kd, mkS (longest ((tl z).drop c)), l, c⟩], c + (longest ((tl z).drop c)).length, n, some (.str (mkS (longest ((tl z).drop c)))), ?_, ex.trans e8, e8 _ _ upd_same,
            All.imp (All.app (ht.imp fun v x h => TokAt.put h7 (h.mono e47)) (.cons (TokAt.put h7 hv) .nil)) fun v x h => h.mono e8, by omega, ?_, by omega, ?_, by omega⟩
          · show [some (V.str z), some (V.int l), some (V.ref p), some (V.int ((c : Int) + ((mkS (longest ((tl z).drop c))).length : Int))), some (V.str (mkS (longest ((tl z).drop c))))] = _
            rw [hkz]
            simp
          · rw [List.length_append]
            simp
            omega
          · rw [hr', withFront_app, List.drop_drop]
    · have hge : ¬ (c : Int) < (z.length : Int) := of_decide_eq_false hb
      have hnil : (tl z).drop c = [] := List.drop_eq_nil_of_le (by rw [len_tl]; omega)
      rw [hnil, readRow_nil] at hr'
      refine s_ret (ev_var rfl) fun H5 e5 => ?_
      have e45 := e4.trans e5
      refine k.1 acc (by rw [hr']; simp [withFront]) _ _ (e3.trans e45) ⟨p, vs, rfl, e45 _ _ h3, ht.imp fun v x h => h.mono e45⟩


def spTokens (K : PySem.W.Frag) : Sp := fun vs H Q E => ∃ z : Str, vs = [.str z] ∧ z.length + 10 ≤ big ∧ Lexes K H Q E (lexAll z)

theorem ok_read_tokens (T : Txt K mg) : FnR P w K mg base (L2.CX P w) 5 (He.ga K "read_tokens") (spTokens K) := by
  obtain ⟨fd_SyntaxFault, GI_SyntaxFault, BI_SyntaxFault⟩ := ok_SyntaxFault_init (P := P) (w := w) (base := base) T
  have G_Token_init := ok_Token_init (P := P) (w := w) (base := base) T
  have G_read_row := ok_read_row (P := P) (w := w) (base := base) T
  have KP_read_row : PySem.W.keepIn K (.ref (He.ga K "read_row")) = true := by
    obtain ⟨_, F⟩ := T.F_read_row
    exact F.kp
  obtain ⟨fd, F⟩ := T.F_read_tokens
  have B : Binds K fd P_read_tokens [] := F.bindsN fun _ _ _ _ _ _ us hl => match us, hl with | [_], _ => rfl
  refine fnR_of F B (F.ok sc_read_tokens (fun vs H Q E h => ?_) (fun cdv A outer s H vs Q E hr h => ?_))
  · obtain ⟨z, rfl, _⟩ := h
    rfl
  · have hu := hu_of hr
    obtain ⟨z, rfl, hz, k⟩ := h
    refine ⟨_, (pss_cons (ps_if (pt_not (pt_val (pe_callB call_isi (by rfl) T.b_isinstance (by decide +kernel) (pa_cons (pv 0) (pa_cons (pe_bltn (v := V.ty "str") (by rfl) T.b_str (by decide +kernel) rfl) pa_nil))))) (pss_one (ps_raise rfl (takes_of rfl rfl rfl rfl) (pmk_oex T.x_SyntaxFault T.i_SyntaxFault T.ti_SyntaxFault GI_SyntaxFault (hr.mono (by decide)) BI_SyntaxFault .nil passL rfl T.g_SyntaxFault (pa_cons pe_int (pa_cons pe_int pa_nil))))) pss_nil)
        (pss_cons (ps_set (i := 1) sc_read_tokens.nd rfl (by first | exact Or.inl rfl | exact Or.inr rfl) (pe_lst pa_nil))
        (pss_cons (ps_set (i := 2) sc_read_tokens.nd rfl (by first | exact Or.inl rfl | exact Or.inr rfl) (pe_split (pv 0) pe_str))
        (pss_cons (ps_for (passes_of rfl) rfl (pi_enum (by rfl) T.b_enumerate (pa_cons (pv 2) pa_nil)) (pg_tup rfl (pgs_cons (pg_name (i := 3) sc_read_tokens.nd rfl (by first | exact Or.inl rfl | exact Or.inr rfl)) (pgs_cons (pg_name (i := 4) sc_read_tokens.nd rfl (by first | exact Or.inl rfl | exact Or.inr rfl)) pgs_nil))) (pss_one (ps_expr (pe_bm PySem.F.plainAttrs_list PySem.F.slot_list_extend PySem.F.type_list_extend mt_extend (pv 1) (pa_cons (pe_callR G_read_row (hr.mono (by decide)) T.g_read_row KP_read_row px (pa_cons (pv 4) (pa_cons (pv 3) pa_nil))) pa_nil)))))
        (pss_cons (ps_expr (pe_bm PySem.F.plainAttrs_list PySem.F.slot_list_append PySem.F.type_list_append mt_append (pv 1) (pa_cons (StX.pe_makeR T.k_Token G_Token_init (hr.mono (by decide)) (by rfl) T.g_Token px (pa_cons (pe_gs T.v_END) (pa_cons pe_str (pa_cons (pe_callB call_len_seq (by rfl) T.b_len (by decide +kernel) (pa_cons (pv 2) pa_nil)) (pa_cons pe_int pa_nil))))) pa_nil)))
        (pss_one (ps_ret (pv 1)))))))), ?_⟩
    have bl : big + 100 < sizeLine := by decide
    have bb : big = 1000000 := rfl
    have rl := rows_len z
    refine q_when (et_not (et_B (ev_isStr (ev_var rfl)))) (fun hb => absurd hb (by decide)) (fun _ H1 e1 => ?_)
    refine q_asgL (el_lst ea_nil (by decide)) fun p H2 hp e2 h2 => ?_
    refine q_asgL (el_split (ev_var rfl) ev_c (by decide +kernel) (by omega)) fun r H3 hr3 e3 h3 => ?_
    have npr : p ≠ r := ne_of_none h2 hr3
    have hp0 : H p = none := fresh_back e1 hp
    refine q_forEnum (xs := (Txt.split z "\n").map V.str) (ea_cons (ev_var rfl) ea_nil) (sq_of h3) rfl (fun i σ' H' => ∃ (vs : List V) (acc : List Tk) (x y : Option V), σ' = [some (.str z), some (.ref p), some (.ref r), x, y] ∧ Ex H H' ∧ H' p = some (.lst vs) ∧
        H' r = some (.lst ((Txt.split z "\n").map V.str)) ∧ All (TokAt K H') vs acc ∧ acc.length ≤ (((Txt.split z "\n").map Str.length).take i).sum ∧ readRows (Txt.split z "\n") 0 = withFront acc (readRows ((Txt.split z "\n").drop i) i))
      (fun H4 e4 => ⟨[], [], none, none, rfl, ((e1.trans e2).trans e3).trans e4, (e3.trans e4) _ _ h2, e4 _ _ h3, .nil, Nat.zero_le _, by rw [withFront_nil, List.drop_zero]⟩)
      (fun i σ' H' _ ⟨_, _, _, _, _, _, _, h, _⟩ => sq_of h) ?_ ?_
    · rintro i v σ' H' H4 hv ⟨vs, acc, x, y, rfl, e4, h5, h6, ht, hal, hrr⟩ e5
      obtain ⟨row, hrow, rfl⟩ : ∃ row, (Txt.split z "\n")[i]? = some row ∧ v = .str row := by
        rw [List.getElem?_map] at hv
        cases q : (Txt.split z "\n")[i]? with
        | none => rw [q] at hv; cases hv
        | some row => rw [q] at hv; exact ⟨row, rfl, (Option.some.inj hv).symm⟩
      have hi := (List.getElem?_eq_some_iff.mp hrow).1
      have hst := sum_take_le ((Txt.split z "\n").map Str.length) i row.length (by rw [List.getElem?_map, hrow]; rfl)
      have hsa := sum_take_all ((Txt.split z "\n").map Str.length) (i + 1)
      have hd : (Txt.split z "\n").drop i = row :: (Txt.split z "\n").drop (i + 1) := by
        rw [List.drop_eq_getElem_cons hi]
        rw [List.getElem?_eq_getElem hi] at hrow
        rw [Option.some.inj hrow]
      cases hR : readRow row.length (tl row) i 0 with
      | error e =>
        obtain ⟨el, ec⟩ := e
        rw [hd, readRows_cons_bad hR] at hrr
        have kE := k.2 el ec (by unfold lexAll; rw [hrr]; rfl)
        refine ⟨_, rfl, Or.inl ⟨rfl, _, sq_of (e5 _ _ h5)⟩, ?_⟩
        refine ⟨_, rfl, _, rfl, ?_⟩
        exact ⟨row, i, rfl, by omega, by omega, (fun ts hts => by rw [hR] at hts; cases hts), fun l c hlc => by
          rw [hR] at hlc
          cases hlc
          exact kE.mono (e4.trans e5)⟩
      | ok ts =>
        rw [hd, readRows_cons_ok hR] at hrr
        have hln := readRow_len _ _ _ _ _ hR
        rw [len_tl] at hln
        refine s_extP (P := fun v H2 => ToksAt K H2 v ts) (e5 _ _ h5) (ev_var rfl) (ep_callR (ea_cons (ev_var rfl) (ea_cons (ev_var rfl) ea_nil)) fun H6 e6 Q6 q6 => ⟨row, i, rfl, by omega, by omega, (fun t2 ht2 v H7 e7 h7 => ?_), fun l c hlc => ?_⟩) fun v H7 e7 hv => ?_
        · rw [hR] at ht2
          cases ht2
          exact q6 v H7 e7 h7
        · rw [hR] at hlc
          cases hlc
        · obtain ⟨b, ys, rfl, hb, hA⟩ := hv
          have e57 := e5.trans e7
          have hp7 := e57 _ _ h5
          have hlen := hA.len
          have hlen2 := ht.len
          refine ⟨b, ys, rfl, hb, by omega, vs ++ ys, acc ++ ts, _, _, rfl, Ex.mut (e4.trans e57) hp0, upd_same, ?_, All.app (ht.imp fun v x h => TokAt.put hp7 (h.mono e57)) (hA.imp fun v x h => TokAt.put hp7 h), ?_, ?_⟩
          · rw [upd_ne (Ne.symm npr)]
            exact e57 _ _ h6
          · rw [List.length_append]
            omega
          · rw [hrr, withFront_app]
    · rintro σ' H' ⟨vs, acc, x, y, rfl, e4, h5, h6, ht, hal, hrr⟩
      rw [List.length_map, List.drop_length] at hrr
      have hsa := sum_take_all ((Txt.split z "\n").map Str.length) ((Txt.split z "\n").map V.str).length
      have hlen := ht.len
      refine q_appP (P := fun v H2 => TokAt K H2 v (endTk (Txt.split z "\n").length)) h5 (ev_var rfl) (ep_make (ea_cons ev_c (ea_cons ev_c (ea_cons (ev_len (ev_var rfl) (sq_of h6)) (ea_cons ev_c ea_nil)))) rfl fun x dx H7 e7 h7 => ⟨x, dx, rfl, ?_⟩) (by omega) fun v H7 e7 hv => ?_
      · rw [h7]
        unfold tkF endTk
        simp
      · have h7 := e7 _ _ h5
        refine s_ret (ev_var rfl) fun H8 e8 => ?_
        refine k.1 (acc ++ [endTk (Txt.split z "\n").length]) ?_ _ _ ((Ex.mut (e4.trans e7) hp0).trans e8) ⟨p, vs ++ [v], rfl, e8 _ _ upd_same, (All.app (ht.imp fun v x h => TokAt.put h7 (h.mono e7)) (.cons (TokAt.put h7 hv) .nil)).imp fun v x h => h.mono e8⟩
        unfold lexAll
        rw [hrr]
        simp [withFront, readRows]

end SB

set_option maxHeartbeats 4000000
namespace SB
open PySem PySem.Spec PyProof.Rows L2
open TL (tl)
open Evl
variable {P : Program} {w : World} {K : PySem.W.Frag} {mg : Str → Option Value} {base : Heap}


/-! ### the parser's object -/
def parF (l : Addr) (i : Nat) : List (Str × V) := [("tokens", .ref l), ("at", .int i)]
/-- what is no list and no parser stays -/
def ES (K : PySem.W.Frag) (H H' : Hp) : Prop := ∀ a o, H a = some o → (∀ xs, o ≠ .lst xs) → (∀ dx l i, o ≠ .ins (He.ga K "Parser") dx (parF l i)) → H' a = some o
theorem ES.refl (K : PySem.W.Frag) (H : Hp) : ES K H H := fun _ _ h _ _ => h
theorem ES.trans {K : PySem.W.Frag} {H H1 H2 : Hp} (a : ES K H H1) (b : ES K H1 H2) : ES K H H2 := fun x o h n m => b x o (a x o h n m) n m
theorem ES.of {K : PySem.W.Frag} {H H' : Hp} (e : Ex H H') : ES K H H' := fun a o h _ _ => e a o h
theorem ES.ofN {K : PySem.W.Frag} {q dx l : Addr} {i : Nat} {H H' : Hp} (e : ExN q H H') (hq : H q = some (.ins (He.ga K "Parser") dx (parF l i))) : ES K H H' := fun a o h _ m => by
  by_cases z : a = q
  · subst z
    rw [hq] at h
    exact absurd (Option.some.inj h).symm (m _ _ _)
  · exact e a o z h
theorem ES.put {K : PySem.W.Frag} {H : Hp} {p : Addr} {xs ys : List V} (hp : H p = some (.lst xs)) : ES K H (upd H p (.lst ys)) := fun a o h n _ => by
  by_cases z : a = p
  · subst z
    rw [hp] at h
    exact absurd (Option.some.inj h).symm (n _)
  · rw [upd_ne z]
    exact h
theorem TokAt.es {K : PySem.W.Frag} {H H' : Hp} {v : V} {t : Tk} (e : ES K H H') (h : TokAt K H v t) : TokAt K H' v t := by
  obtain ⟨a, dx, e1, e2⟩ := h
  refine ⟨a, dx, e1, e a _ e2 (fun _ z => by cases z) fun dy l i z => ?_⟩
  have := congrArg (fun o => match o with | HO.ins _ _ fs => fs.length | _ => 0) z
  exact absurd (show (4 : Nat) = 2 from this) (by decide)
def OptAt (K : PySem.W.Frag) (H : Hp) (v : V) : Option Tk → Prop
  | none => v = .non
  | some t => TokAt K H v t
theorem OptAt.es {K : PySem.W.Frag} {H H' : Hp} {v : V} {o : Option Tk} (e : ES K H H') (h : OptAt K H v o) : OptAt K H' v o := by
  cases o with
  | none => exact h
  | some t => exact TokAt.es e h
def StepAt (K : PySem.W.Frag) (H : Hp) (v : V) (s : StepM) : Prop := ∃ a dx lv cv tv, v = .ref a ∧ H a = some (.ins (He.ga K "StepTokens") dx [("label", lv), ("command", cv), ("target", tv)]) ∧ OptAt K H lv s.label ∧ TokAt K H cv s.command ∧ OptAt K H tv s.target
theorem StepAt.es {K : PySem.W.Frag} {H H' : Hp} {v : V} {s : StepM} (e : ES K H H') (h : StepAt K H v s) : StepAt K H' v s := by
  obtain ⟨a, dx, lv, cv, tv, e1, e2, h1, h2, h3⟩ := h
  refine ⟨a, dx, lv, cv, tv, e1, e a _ e2 (fun _ z => by cases z) (fun dy l i z => ?_), h1.es e, h2.es e, h3.es e⟩
  have := congrArg (fun o => match o with | HO.ins _ _ fs => fs.length | _ => 0) z
  exact absurd (show (3 : Nat) = 2 from this) (by decide)
def RobAt (K : PySem.W.Frag) (H : Hp) (v : V) (r : RobM) : Prop := ∃ a dx sv p vs, v = .ref a ∧ H a = some (.ins (He.ga K "RobotTokens") dx [("start", sv), ("steps", .ref p)]) ∧ TokAt K H sv r.start ∧ H p = some (.lst vs) ∧ All (StepAt K H) vs r.steps
theorem RobAt.exn {K : PySem.W.Frag} {q dx l : Addr} {i : Nat} {H H' : Hp} {v : V} {r : RobM} (e : ExN q H H') (hq : H q = some (.ins (He.ga K "Parser") dx (parF l i))) (h : RobAt K H v r) : RobAt K H' v r := by
  obtain ⟨a, dy, sv, p, vs, e1, e2, h1, h2, h3⟩ := h
  have s := ES.ofN e hq
  refine ⟨a, dy, sv, p, vs, e1, ?_, h1.es s, e p _ ?_ h2, h3.imp fun v x h => h.es s⟩
  · refine s a _ e2 (fun _ z => by cases z) fun dy l i z => ?_
    have := congrArg (fun o => match o with | HO.ins _ _ fs => fs.head?.map Prod.fst | _ => (none : Option Str)) z
    exact absurd (show some ("start" : Str) = some ("tokens" : Str) from this) (by decide +kernel)
  · exact ne_of h2 hq (by intro z; cases z)
theorem RobAt.ex {K : PySem.W.Frag} {H H' : Hp} {v : V} {r : RobM} (e : Ex H H') (h : RobAt K H v r) : RobAt K H' v r := by
  obtain ⟨a, dy, sv, p, vs, e1, e2, h1, h2, h3⟩ := h
  exact ⟨a, dy, sv, p, vs, e1, e _ _ e2, h1.mono e, e _ _ h2, h3.imp fun v x h => h.es (ES.of e)⟩
def PlanAt (K : PySem.W.Frag) (H : Hp) (v : V) (p : PlanM) : Prop := ∃ a dx kv n ns r rs, v = .ref a ∧ H a = some (.ins (He.ga K "PlanTokens") dx [("keyword", kv), ("numbers", .ref n), ("robots", .ref r)]) ∧ TokAt K H kv p.keyword ∧
  H n = some (.lst ns) ∧ All (TokAt K H) ns p.numbers ∧ H r = some (.lst rs) ∧ All (RobAt K H) rs p.robots
structure Par (K : PySem.W.Frag) (H : Hp) (q dx l : Addr) (us : List V) (ts : List Tk) (i : Nat) : Prop where
  ob : H q = some (.ins (He.ga K "Parser") dx (parF l i))
  ls : H l = some (.lst us)
  al : All (TokAt K H) us ts
  sm : ∀ t ∈ ts, t.line ≤ big ∧ t.col ≤ big
  sz : ts.length ≤ big
  en : EndsK ts
theorem Par.ex {K : PySem.W.Frag} {H H' : Hp} {q dx l : Addr} {us : List V} {ts : List Tk} {i : Nat} (h : Par K H q dx l us ts i) (e : Ex H H') : Par K H' q dx l us ts i :=
  ⟨e _ _ h.ob, e _ _ h.ls, h.al.imp fun v x r => r.mono e, h.sm, h.sz, h.en⟩
theorem Par.put {K : PySem.W.Frag} {H : Hp} {q dx l p : Addr} {us : List V} {ts : List Tk} {i : Nat} {xs ys : List V} (h : Par K H q dx l us ts i) (hp : H p = some (.lst xs)) (n : p ≠ l) : Par K (upd H p (.lst ys)) q dx l us ts i := by
  refine ⟨?_, ?_, h.al.imp fun v x r => r.es (ES.put hp), h.sm, h.sz, h.en⟩
  · rw [upd_ne (ne_of h.ob hp (by intro z; cases z))]
    exact h.ob
  · rw [upd_ne (Ne.symm n)]
    exact h.ls
def FailsN (K : PySem.W.Frag) (q : Addr) (H : Hp) (E : XK) (e : Err) : Prop := ∀ (d : Addr) (H' : Hp), ExN q H H' → H d = none → H' d = some (.xd (sfF (e.1 : Nat) (e.2 : Nat))) → E (.ref (He.ga K "SyntaxFault")) (some d) H'
theorem FailsN.mono {K : PySem.W.Frag} {q : Addr} {H H1 : Hp} {E : XK} {e : Err} {o : HO} (h : FailsN K q H E e) (x : ExN q H H1) (hq : H1 q = some o) : FailsN K q H1 E e := fun d H' x2 n z => h d H' (x.trans x2) (by
  cases w : H d with
  | none => rfl
  | some u =>
    by_cases c : d = q
    · rw [c, hq] at n
      cases n
    · rw [x d u c w] at n
      cases n) z
theorem FailsN.out {K : PySem.W.Frag} {q : Addr} {H : Hp} {E : XK} {e : Err} (h : FailsN K q H E e) : Fails H E (He.ga K "SyntaxFault") (sfF (e.1 : Nat) (e.2 : Nat)) := fun d H' s n x => h d H' (ExN.of s) n x
/-- how a method of the parser ends -/
def Took {α : Type} (K : PySem.W.Frag) (q dx l : Addr) (us : List V) (ts : List Tk) (H : Hp) (Q : VK) (E : XK) (R : Hp → V → α → Prop) (r : PR α) : Prop :=
  (∀ a j, r = .ok (a, j) → ∀ v H', ExN q H H' → Par K H' q dx l us ts j → R H' v a → Q v H') ∧ (∀ e, r = .error e → FailsN K q H E e)
def spM {α : Type} (K : PySem.W.Frag) (R : Hp → V → α → Prop) (m : List Tk → Nat → PR α) : Sp := fun vs H Q E => ∃ q dx l us ts i, vs = [.ref q] ∧ Par K H q dx l us ts i ∧ i < ts.length ∧ Took K q dx l us ts H Q E R (m ts i)
def spKd (K : PySem.W.Frag) : Sp := fun vs H Q _ => ∃ q dx l us ts i, vs = [.ref q] ∧ Par K H q dx l us ts i ∧ i < ts.length ∧ RetV (.str (kindAt ts i)) H Q
def spTakeB (K : PySem.W.Frag) : Sp := fun vs H Q E => ∃ q dx l us ts i p ks, vs = [.ref q, .ref p] ∧ H p = some (.tup (ks.map V.str)) ∧ Par K H q dx l us ts i ∧ i < ts.length ∧ Took K q dx l us ts H Q E (TokAt K) (takeK ks ts i)
def spTake (K : PySem.W.Frag) : Sp := fun vs H Q E => ∃ q dx l us ts i ks, vs = .ref q :: ks.map V.str ∧ ks.length ≤ 100 ∧ Par K H q dx l us ts i ∧ i < ts.length ∧ Took K q dx l us ts H Q E (TokAt K) (takeK ks ts i)
theorem Par.tok {K : PySem.W.Frag} {H : Hp} {q dx l : Addr} {us : List V} {ts : List Tk} {i : Nat} (h : Par K H q dx l us ts i) (hi : i < ts.length) : ∃ v a da, us[i]? = some v ∧ v = .ref a ∧ H a = some (.ins (He.ga K "Token") da (tkF ts[i])) := by
  obtain ⟨v, h1, a, da, e, h2⟩ := h.al.get (List.getElem?_eq_getElem hi)
  exact ⟨v, a, da, h1, e, h2⟩
theorem kindAt_eq {ts : List Tk} {i : Nat} (hi : i < ts.length) : kindAt ts i = ts[i].kind := by
  unfold kindAt
  rw [List.getElem?_eq_getElem hi]
theorem atI_get {xs : List V} {i : Nat} {v : V} (h : xs[i]? = some v) : atI xs (i : Int) = some v := by
  unfold atI
  rw [Evl.ixN_nat (List.getElem?_eq_some_iff.mp h).1]
  exact h

theorem ok_Parser_next_kind (T : Txt K mg) : FnR P w K mg base (L2.CX P w) 1 (He.ma K (He.ga K "Parser") "next_kind") (spKd K) := by
  obtain ⟨fd, F⟩ := T.F_Parser_next_kind
  have B : Binds K fd P_Parser_next_kind [] := F.bindsN fun _ _ _ _ _ _ us hl => match us, hl with | [_], _ => rfl
  refine fnR_of F B (F.ok sc_Parser_next_kind (fun vs H Q E h => ?_) (fun cdv A outer s H vs Q E hr h => ?_))
  · obtain ⟨q, dx, l, us, ts, i, rfl, _⟩ := h
    rfl
  · have hu := hu_of hr
    obtain ⟨q, dx, l, us, ts, i, rfl, hp, hi, k⟩ := h
    refine ⟨_, (pss_one (ps_ret (pe_fld (pe_ix ix_list (pe_fld (pv 0) rfl) (pe_fld (pv 0) rfl) (fun _ _ => rfl)) rfl))), ?_⟩
    obtain ⟨v, a, da, h1, rfl, h2⟩ := hp.tok hi
    refine s_ret (ev_fld (ev_op (ev_fld (ev_var rfl) hp.ob T.c_Parser T.n_Parser_tokens rfl) (ev_fld (ev_var rfl) hp.ob T.c_Parser T.n_Parser_at rfl) (rv_ixL (sq_of hp.ls) (atI_get h1))) h2 T.c_Token T.n_Token_kind rfl) ?_
    rw [kindAt_eq hi] at k
    exact k


theorem ok_Parser_take (T : Txt K mg) : FnR P w K mg base (L2.CX P w) 3 (He.ma K (He.ga K "Parser") "take") (spTake K) := by
  obtain ⟨fd_SyntaxFault, GI_SyntaxFault, BI_SyntaxFault⟩ := ok_SyntaxFault_init (P := P) (w := w) (base := base) T
  obtain ⟨fd, F⟩ := T.F_Parser_take
  obtain ⟨oc, od, dV, kV, doc, pm, an, cdv, ct, osl, rfl, lk, hcd, hD, hK⟩ := F.ex
  obtain rfl : dV = Value.none := by
    rcases hD with ⟨_, e⟩ | ⟨e, _⟩
    · exact e
    · exact absurd rfl e
  refine (StX.fn_star (k := 2) (ps := ["self"]) (pv := "kinds") (sp := spTakeB K) lk hcd sc_Parser_take StX.cxUp (fun us rest hl => match us, rest, hl with | [a], [], _ => rfl | [a], r :: rs, _ => rfl) fun A outer s H vs Q E hr h => ?_).imp fun vs H Q E h => ?_
  · obtain ⟨q, dx, l, us, ts, i, p, ks, rfl, hk, hp, hi, k, kE⟩ := h
    obtain ⟨v, a, da, h1, rfl, h2⟩ := hp.tok hi
    have hti : ts[i]? = some ts[i] := List.getElem?_eq_getElem hi
    have eT : takeK ks ts i = if decide (ts[i].kind ∈ ks) = true then .ok (ts[i], i + 1) else .error (ts[i].line, ts[i].col) := by
      unfold takeK
      rw [hti]
    have sm := hp.sm _ (List.getElem_mem hi)
    refine ⟨_, (pss_cons (ps_set (i := 2) sc_Parser_take.nd rfl (by first | exact Or.inl rfl | exact Or.inr rfl) (pe_ix ix_list (pe_fld (pv 0) rfl) (pe_fld (pv 0) rfl) (fun _ _ => rfl)))
          (pss_cons (ps_if (pt_cmpR op_notIn_seq (pe_fld (pv 2) rfl) (pv 1) (by rfl)) (pss_one (ps_raise rfl (takes_of rfl rfl rfl rfl) (pmk_oex T.x_SyntaxFault T.i_SyntaxFault T.ti_SyntaxFault GI_SyntaxFault (hr.mono (by decide)) BI_SyntaxFault .nil passL rfl T.g_SyntaxFault (pa_cons (pe_fld (pv 2) rfl) (pa_cons (pe_fld (pv 2) rfl) pa_nil))))) pss_nil)
          (pss_cons (ps_fldaug (pv 0) pe_int in_add)
          (pss_one (ps_ret (pv 2)))))), ?_⟩
    refine q_asg (ev_op (ev_fld (ev_var rfl) hp.ob T.c_Parser T.n_Parser_tokens rfl) (ev_fld (ev_var rfl) hp.ob T.c_Parser T.n_Parser_at rfl) (rv_ixL (sq_of hp.ls) (atI_get h1))) fun H1 e1 => ?_
    refine q_when (b := !decide (ts[i].kind ∈ ks)) (et_test (ev_is (ev_op (ev_fld (ev_var rfl) (e1 _ _ h2) T.c_Token T.n_Token_kind rfl) (ev_var rfl) (rv_niT (st_of (e1 _ _ hk)) rfl (flat_strs ks))) (congrArg (fun b => V.bl (!b)) (inV_strs _ ks)))) (fun hb H2 e2 => ?_) (fun hb H2 e2 => ?_)
    · have e12 := e1.trans e2
      have f : FailsN K q H E (ts[i].line, ts[i].col) := kE _ (by rw [eT, if_neg]; simpa using hb)
      exact s_raiseO (ea_cons (ev_fld (ev_var rfl) (e12 _ _ h2) T.c_Token T.n_Token_line rfl) (ea_cons (ev_fld (ev_var rfl) (e12 _ _ h2) T.c_Token T.n_Token_column rfl) ea_nil)) ⟨_, _, rfl, rfl, small_of sm.1, small_of sm.2⟩ (by show 2 ≤ 1000; decide) (f.out.mono e12)
    · have e12 := e1.trans e2
      have p2 := hp.ex e12
      refine ⟨_, rfl, q, _, dx, _, _, rfl, p2.ob, T.c_Parser, T.n_Parser_at, rfl, _, _, rfl, rfl, dx, _, p2.ob, (by show 2 < 1000; decide), ?_⟩
      have eP : putF "at" (V.int ((i : Int) + 1)) (parF l i) = parF l (i + 1) := by
        show [(("tokens" : Str), V.ref l), (("at" : Str), V.int ((i : Int) + 1))] = [(("tokens" : Str), V.ref l), (("at" : Str), V.int ((i + 1 : Nat) : Int))]
        simp
      have n1 : ExN q H (upd _ q (.ins (He.ga K "Parser") dx (parF l (i + 1)))) := fun b o n h => by
        rw [upd_ne n]
        exact e12 _ _ h
      have es : ES K H (upd _ q (.ins (He.ga K "Parser") dx (parF l (i + 1)))) := ES.ofN n1 hp.ob
      refine s_ret (ev_var rfl) fun H3 e3 => ?_
      have eH : (HO.ins (He.ga K "Parser") dx (putF "at" (V.int ((i : Int) + 1)) (parF l i))) = .ins (He.ga K "Parser") dx (parF l (i + 1)) := by rw [eP]
      rw [show putF (Str.ofString "at") (V.int ((i : Int) + 1)) (parF l i) = parF l (i + 1) from eP] at e3
      refine k ts[i] (i + 1) (by rw [eT, if_pos]; simpa using hb) _ _ (n1.trans (ExN.of e3)) (Par.ex ⟨upd_same, n1 l _ (ne_of hp.ls hp.ob (by intro z; cases z)) hp.ls, hp.al.imp fun v x r => r.es es, hp.sm, hp.sz, hp.en⟩ e3) ?_
      exact TokAt.mono e3 (TokAt.es es ⟨a, da, rfl, h2⟩)
  · obtain ⟨q, dx, l, us, ts, i, ks, rfl, hl, hp, hi, k, kE⟩ := h
    refine ⟨[.ref q], ks.map V.str, rfl, rfl, by rw [List.length_map]; exact Nat.le_trans hl (by decide), fun p np => ⟨q, dx, l, us, ts, i, p, ks, rfl, upd_same, hp.ex (Ex.new np), hi, fun a j ha v H' x => k a j ha v H' (ExN.trans (ExN.of (Ex.new np)) x), fun e he => FailsN.mono (kE e he) (ExN.of (Ex.new np)) ((Ex.new np) _ _ hp.ob)⟩⟩


section
variable {α β : Type} {q dx l : Addr} {us : List V} {ts : List Tk} {H H1 : Hp} {Q Q1 : VK} {E : XK} {R : Hp → V → α → Prop} {R1 : Hp → V → β → Prop} {i : Nat}
theorem Took.bind {r : PR β} {f : β → Nat → PR α} (k : Took K q dx l us ts H Q E R (andThen r f))
    (g : ∀ a j, r = .ok (a, j) → ∀ v H', ExN q H H' → Par K H' q dx l us ts j → R1 H' v a → Took K q dx l us ts H' Q E R (f a j) → Q1 v H') : Took K q dx l us ts H Q1 E R1 r := by
  refine ⟨fun a j hr v H' x p r1 => g a j hr v H' x p r1 ⟨fun b m hb v2 H2 x2 p2 r2 => k.1 b m (by rw [hr]; exact hb) v2 H2 (x.trans x2) p2 r2, fun e he => FailsN.mono (k.2 e (by rw [hr]; exact he)) x p.ob⟩, fun e he => k.2 e (by rw [he]; rfl)⟩
theorem Took.move {r : PR α} (k : Took K q dx l us ts H Q E R r) (x : ExN q H H1) (p : Par K H1 q dx l us ts i) : Took K q dx l us ts H1 Q E R r :=
  ⟨fun a j h v H' x2 p2 r2 => k.1 a j h v H' (x.trans x2) p2 r2, fun e h => FailsN.mono (k.2 e h) x p.ob⟩
theorem Took.rest {r : PR β} {f : β → Nat → PR α} {a : β} {j : Nat} (k : Took K q dx l us ts H Q E R (andThen r f)) (h : r = .ok (a, j)) : Took K q dx l us ts H Q E R (f a j) := by
  rw [h] at k
  exact k
theorem ExN.put {p : Addr} {xs ys : List V} (x : ExN q H H1) (n : H p = none) : ExN q H (upd H1 p (.lst ys)) := fun a o na h => by
  rw [upd_ne (ne_of_none h n)]
  exact x a o na h
theorem m_take {t : TA} {σ : L2.St} {ks : List Str} (hv : σ[0]? = some (some (.ref q))) (hp : Par K H q dx l us ts i) (hi : i < ts.length) (ha : EvA t σ H (ks.map V.str)) (hk : ks.length ≤ 100)
    (k : Took K q dx l us ts H Q E (TokAt K) (takeK ks ts i)) : tMethR (He.ga K "Parser") "take" (spTake K) E (tVar 0) t σ H Q :=
  ⟨_, hv, q, dx, _, rfl, hp.ob, rfl, ha H (Ex.refl H) _ fun H1 e => ⟨q, dx, l, us, ts, i, ks, rfl, hk, hp.ex e, hi, k.move (ExN.of e) (hp.ex e)⟩⟩
theorem m_takeS {g b : Addr} {σ : L2.St} {ks : List Str} (hv : σ[0]? = some (some (.ref q))) (hp : Par K H q dx l us ts i) (hi : i < ts.length) (hb : ∀ H, SqT K H b (ks.map V.str)) (hk : ks.length ≤ 100)
    (k : Took K q dx l us ts H Q E (TokAt K) (takeK ks ts i)) : tMethS K (He.ga K "Parser") "take" g (spTake K) E (tVar 0) (tC (.ref b)) σ H Q :=
  ⟨_, hv, q, dx, _, rfl, hp.ob, rfl, fun q1 n1 => ⟨b, _, rfl, hb _, upd_same, q, dx, l, us, ts, i, ks, rfl, hk, hp.ex (Ex.new n1), hi, k.move (ExN.of (Ex.new n1)) (hp.ex (Ex.new n1))⟩⟩
theorem m_M {m : Str} {mm : List Tk → Nat → PR α} {σ : L2.St} (hm : ∀ (l : Addr) (i : Nat), (parF l i).lookup m = none) (hv : σ[0]? = some (some (.ref q))) (hp : Par K H q dx l us ts i) (hi : i < ts.length)
    (k : Took K q dx l us ts H Q E R (mm ts i)) : tMethR0 (He.ga K "Parser") m (spM K R mm) E (tVar 0) σ H Q :=
  ⟨_, hv, q, dx, _, rfl, hp.ob, hm _ _, q, dx, l, us, ts, i, rfl, hp, hi, k⟩
theorem ev_kind {σ : L2.St} (hv : σ[0]? = some (some (.ref q))) (hp : Par K H q dx l us ts i) (hi : i < ts.length) : Ev (tMethR0 (He.ga K "Parser") "next_kind" (spKd K) E (tVar 0)) σ H (.str (kindAt ts i)) := fun H1 e Q k =>
  ⟨_, hv, q, dx, _, rfl, (hp.ex e).ob, rfl, q, dx, l, us, ts, i, rfl, hp.ex e, hi, k⟩
end

theorem ok_Parser_take_step (T : Txt K mg) : FnR P w K mg base (L2.CX P w) 4 (He.ma K (He.ga K "Parser") "take_step") (spM K (StepAt K) takeStep) := by
  have G_Parser_take := ok_Parser_take (P := P) (w := w) (base := base) T
  have G_StepTokens_init := ok_StepTokens_init (P := P) (w := w) (base := base) T
  have G_Parser_next_kind := ok_Parser_next_kind (P := P) (w := w) (base := base) T
  obtain ⟨fd, F⟩ := T.F_Parser_take_step
  have B : Binds K fd P_Parser_take_step [] := F.bindsN fun _ _ _ _ _ _ us hl => match us, hl with | [_], _ => rfl
  refine fnR_of F B (F.ok sc_Parser_take_step (fun vs H Q E h => ?_) (fun cdv A outer s H vs Q E hr h => ?_))
  · obtain ⟨q, dx, l, us, ts, i, rfl, _⟩ := h
    rfl
  · have hu := hu_of hr
    obtain ⟨q, dx, l, us, ts, i, rfl, hp, hi, k⟩ := h
    refine ⟨_, (pss_cons (ps_set (i := 1) sc_Parser_take_step.nd rfl (by first | exact Or.inl rfl | exact Or.inr rfl) pe_non)
        (pss_cut (ps_if (pt_cmpR op_eq (pe_methR0 (pv 0) T.c_Parser T.m_Parser_next_kind G_Parser_next_kind (hr.mono (by decide)) px) (pe_gs T.v_NAME) (nomark _)) (pss_cons (ps_set (i := 1) sc_Parser_take_step.nd rfl (by first | exact Or.inl rfl | exact Or.inr rfl) (pe_methR (pv 0) T.c_Parser T.m_Parser_take G_Parser_take (hr.mono (by decide)) px (pa_cons (pe_gs T.v_NAME) pa_nil)))
        (pss_one (ps_expr (pe_methR (pv 0) T.c_Parser T.m_Parser_take G_Parser_take (hr.mono (by decide)) px (pa_cons pe_str pa_nil))))) pss_nil)
        (pss_cons (ps_set (i := 2) sc_Parser_take_step.nd rfl (by first | exact Or.inl rfl | exact Or.inr rfl) (pe_methS (pv 0) T.c_Parser T.bm_Parser_take G_Parser_take (hr.mono (by decide)) px (pe_gr T.g_COMMANDS)))
        (pss_cons (ps_set (i := 3) sc_Parser_take_step.nd rfl (by first | exact Or.inl rfl | exact Or.inr rfl) pe_non)
        (pss_cut (ps_if (pt_cmpR op_in_seq (pe_fld (pv 2) rfl) (pe_gr T.g_JUMPS) (by rfl)) (pss_one (ps_set (i := 3) sc_Parser_take_step.nd rfl (by first | exact Or.inl rfl | exact Or.inr rfl) (pe_methR (pv 0) T.c_Parser T.m_Parser_take G_Parser_take (hr.mono (by decide)) px (pa_cons (pe_gs T.v_NAME) pa_nil)))) pss_nil)
        (pss_cons (ps_expr (pe_methR (pv 0) T.c_Parser T.m_Parser_take G_Parser_take (hr.mono (by decide)) px (pa_cons pe_str pa_nil)))
        (pss_one (ps_ret (StX.pe_makeR T.k_StepTokens G_StepTokens_init (hr.mono (by decide)) (by rfl) T.g_StepTokens px (pa_cons (pv 1) (pa_cons (pv 2) (pa_cons (pv 3) pa_nil)))))))))))), ?_⟩
    refine q_asg ev_c fun H1 e1 => ?_
    have p1 := hp.ex e1
    have k1 := k.move (ExN.of e1) p1
    let Mid : L2.St → Hp → Prop := fun σ' H' => ∃ lab lv j, σ' = [some (.ref q), some lv, none, none] ∧ Par K H' q dx l us ts j ∧ j < ts.length ∧ OptAt K H' lv lab ∧
      Took K q dx l us ts H' Q E (StepAt K) (andThen (takeK commands ts j) fun c m => andThen (takeTarget c ts m) fun tg n => andThen (takeK [";"] ts n) fun _ o => .ok (⟨lab, c, tg⟩, o))
    have kL : Took K q dx l us ts H1 (fun lv H' => Mid [some (.ref q), some lv, none, none] H') E (OptAt K) (takeLabel ts i) := k1.bind fun lab j hl v H' x p r k' => ⟨lab, v, j, rfl, p, (takeLabel_lt hp.en hi hl).2, r, k'⟩
    refine ⟨Mid, ?_, ?_⟩
    · refine s_when (b := decide (kindAt ts i = "name")) (et_test (ev_is (ev_op (ev_kind rfl p1 hi) ev_c (rv_eq rfl)) (congrArg V.bl (str_eq _ _)))) (fun hb H2 e2 => ?_) (fun hb H2 e2 => ?_)
      · have hn : kindAt ts i = "name" := of_decide_eq_true hb
        have p2 := p1.ex e2
        have k2 := kL.move (ExN.of e2) p2
        unfold takeLabel at k2
        rw [if_pos hn] at k2
        refine q_setH (m_take (ks := ["name"]) rfl p2 hi (ea_cons ev_c ea_nil) (by decide) (k2.bind fun t j ht v H3 x3 p3 r3 k3 => ?_))
        refine s_dropH (m_take (ks := [":"]) rfl p3 (takeK_lt hp.en (by decide +kernel) ht) (ea_cons ev_c ea_nil) (by decide) (k3.bind fun t2 j2 ht2 v2 H4 x4 p4 r4 k4 => ?_))
        exact k4.1 (some t) j2 rfl v H4 (ExN.refl _ _) p4 (TokAt.es (ES.ofN x4 p3.ob) r3)
      · have hn : ¬ kindAt ts i = "name" := of_decide_eq_false hb
        have p2 := p1.ex e2
        have k2 := kL.move (ExN.of e2) p2
        unfold takeLabel at k2
        rw [if_neg hn] at k2
        exact k2.1 none i rfl .non H2 (ExN.refl _ _) p2 rfl
    rintro σ' H2 ⟨lab, lv, j, rfl, p2, hj, hlab, k2⟩
    refine q_setH (m_takeS (ks := commands) rfl p2 hj T.t_COMMANDS (by decide) (k2.bind fun c m hc cv H3 x3 p3 rc k3 => ?_))
    have hlab3 := hlab.es (ES.ofN x3 p2.ob)
    have hm := takeK_lt hp.en (by decide +kernel) hc
    refine q_asg ev_c fun H4 e4 => ?_
    have p4 := p3.ex e4
    let Mid2 : L2.St → Hp → Prop := fun σ' H' => ∃ tg tv n, σ' = [some (.ref q), some lv, some cv, some tv] ∧ Par K H' q dx l us ts n ∧ n < ts.length ∧ OptAt K H' tv tg ∧ ExN q H4 H' ∧
      Took K q dx l us ts H' Q E (StepAt K) (andThen (takeK [";"] ts n) fun _ o => .ok (⟨lab, c, tg⟩, o))
    have kT : Took K q dx l us ts H4 (fun tv H' => Mid2 [some (.ref q), some lv, some cv, some tv] H') E (OptAt K) (takeTarget c ts m) := (k3.move (ExN.of e4) p4).bind fun tg n hl v H' x p r k' => ⟨tg, v, n, rfl, p, (takeTarget_lt hp.en hm hl).2, r, x, k'⟩
    have rc4 := TokAt.mono e4 rc
    refine ⟨Mid2, ?_, ?_⟩
    · obtain ⟨ca, cdx, rfl, hca⟩ := rc4
      refine s_when (b := decide (c.kind ∈ jumps)) (et_test (ev_is (ev_op (ev_fld (ev_var rfl) hca T.c_Token T.n_Token_kind rfl) ev_c (rv_isT (T.t_JUMPS _) rfl (flat_strs jumps))) (congrArg V.bl (inV_strs _ jumps)))) (fun hb H5 e5 => ?_) (fun hb H5 e5 => ?_)
      · have p5 := p4.ex e5
        have k5 := kT.move (ExN.of e5) p5
        unfold takeTarget at k5
        rw [if_pos hb] at k5
        refine s_setH (m_take (ks := ["name"]) rfl p5 hm (ea_cons ev_c ea_nil) (by decide) (k5.bind fun t j ht v H6 x6 p6 r6 k6 => ?_))
        exact k6.1 (some t) j rfl v H6 (ExN.refl _ _) p6 r6
      · have p5 := p4.ex e5
        have k5 := kT.move (ExN.of e5) p5
        unfold takeTarget at k5
        rw [if_neg (by simpa using hb)] at k5
        exact k5.1 none m rfl .non H5 (ExN.refl _ _) p5 rfl
    rintro σ' H5 ⟨tg, tv, n, rfl, p5, hn, htg, x5, k5⟩
    have s45 := ES.ofN x5 p4.ob
    refine q_dropH (m_take (ks := [";"]) rfl p5 hn (ea_cons ev_c ea_nil) (by decide) (k5.bind fun t o ht v H6 x6 p6 r6 k6 => ?_))
    have s56 := ES.ofN x6 p5.ob
    have hlab6 := ((hlab3.es (ES.of e4)).es s45).es s56
    have rc6 := (TokAt.es s45 rc4).es s56
    have htg6 := htg.es s56
    refine s_retP (P := fun v H' => StepAt K H' v ⟨lab, c, tg⟩) (ep_make (ea_cons (ev_var rfl) (ea_cons (ev_var rfl) (ea_cons (ev_var rfl) ea_nil))) rfl fun x da H7 e7 h7 => ⟨x, da, lv, cv, tv, rfl, h7, hlab6.es (ES.of e7), rc6.mono e7, htg6.es (ES.of e7)⟩) fun v H8 e8 hv => ?_
    exact k6.1 _ _ rfl v H8 (ExN.of e8) (p6.ex e8) hv

theorem ok_Parser_take_robot (T : Txt K mg) : FnR P w K mg base (L2.CX P w) 5 (He.ma K (He.ga K "Parser") "take_robot") (spM K (RobAt K) takeRobot) := by
  have G_Parser_take := ok_Parser_take (P := P) (w := w) (base := base) T
  have G_RobotTokens_init := ok_RobotTokens_init (P := P) (w := w) (base := base) T
  have G_Parser_take_step := ok_Parser_take_step (P := P) (w := w) (base := base) T
  have G_Parser_next_kind := ok_Parser_next_kind (P := P) (w := w) (base := base) T
  obtain ⟨fd, F⟩ := T.F_Parser_take_robot
  have B : Binds K fd P_Parser_take_robot [] := F.bindsN fun _ _ _ _ _ _ us hl => match us, hl with | [_], _ => rfl
  refine fnR_of F B (F.ok sc_Parser_take_robot (fun vs H Q E h => ?_) (fun cdv A outer s H vs Q E hr h => ?_))
  · obtain ⟨q, dx, l, us, ts, i, rfl, _⟩ := h
    rfl
  · have hu := hu_of hr
    obtain ⟨q, dx, l, us, ts, i, rfl, hp, hi, k⟩ := h
    refine ⟨_, (pss_cons (ps_expr (pe_methR (pv 0) T.c_Parser T.m_Parser_take G_Parser_take (hr.mono (by decide)) px (pa_cons pe_str pa_nil)))
        (pss_cons (ps_set (i := 1) sc_Parser_take_robot.nd rfl (by first | exact Or.inl rfl | exact Or.inr rfl) (pe_methR (pv 0) T.c_Parser T.m_Parser_take G_Parser_take (hr.mono (by decide)) px (pa_cons (pe_gs T.v_NUMBER) pa_nil)))
        (pss_cons (ps_expr (pe_methR (pv 0) T.c_Parser T.m_Parser_take G_Parser_take (hr.mono (by decide)) px (pa_cons pe_str pa_nil)))
        (pss_cons (ps_set (i := 2) sc_Parser_take_robot.nd rfl (by first | exact Or.inl rfl | exact Or.inr rfl) (pe_lst (pa_cons (pe_methR0 (pv 0) T.c_Parser T.m_Parser_take_step G_Parser_take_step (hr.mono (by decide)) px) pa_nil)))
        (pss_cons (ps_while (passes_of rfl) (pt_cmpR op_ne (pe_methR0 (pv 0) T.c_Parser T.m_Parser_next_kind G_Parser_next_kind (hr.mono (by decide)) px) pe_str (nomark _)) (pss_one (ps_expr (pe_bm PySem.F.plainAttrs_list PySem.F.slot_list_append PySem.F.type_list_append mt_append (pv 2) (pa_cons (pe_methR0 (pv 0) T.c_Parser T.m_Parser_take_step G_Parser_take_step (hr.mono (by decide)) px) pa_nil)))))
        (pss_cons (ps_expr (pe_methR (pv 0) T.c_Parser T.m_Parser_take G_Parser_take (hr.mono (by decide)) px (pa_cons pe_str pa_nil)))
        (pss_one (ps_ret (StX.pe_makeR T.k_RobotTokens G_RobotTokens_init (hr.mono (by decide)) (by rfl) T.g_RobotTokens px (pa_cons (pv 1) (pa_cons (pv 2) pa_nil))))))))))), ?_⟩
    have bb : big + 10 < sizeLine := by decide
    refine q_dropH (m_take (ks := ["robot"]) rfl hp hi (ea_cons ev_c ea_nil) (by decide) (k.bind fun t1 j1 ht1 v1 H1 x1 p1 r1 k1 => ?_))
    have l1 := takeK_lt hp.en (by decide +kernel) ht1
    refine q_setH (m_take (ks := ["number"]) rfl p1 l1 (ea_cons ev_c ea_nil) (by decide) (k1.bind fun st j2 ht2 sv H2 x2 p2 r2 k2 => ?_))
    have l2 := takeK_lt hp.en (by decide +kernel) ht2
    refine q_dropH (m_take (ks := ["{"]) rfl p2 l2 (ea_cons ev_c ea_nil) (by decide) (k2.bind fun t3 j3 ht3 v3 H3 x3 p3 r3 k3 => ?_))
    have l3 := takeK_lt hp.en (by decide +kernel) ht3
    have hst3 := TokAt.es (ES.ofN x3 p2.ob) r2
    refine q_lst1H (m_M (fun _ _ => rfl) rfl p3 l3 (k3.bind fun s j4 hs v4 H4 x4 p4 r4 k4 => ?_))
    have l4 := (takeStep_lt hp.en l3 hs).2
    intro p np
    have e5 : Ex H4 (upd H4 p (.lst [v4])) := Ex.new np
    have npl : p ≠ l := fun z => by
      rw [z, p4.ls] at np
      cases np
    have p5 := p4.ex e5
    refine q_while (fun m σ' H' => ∃ (acc : List StepM) (vs : List V) (j n : Nat), σ' = [some (.ref q), some sv, some (.ref p)] ∧ H' p = some (.lst vs) ∧ All (StepAt K H') vs acc ∧ TokAt K H' sv st ∧ Par K H' q dx l us ts j ∧ j < ts.length ∧ acc.length ≤ j ∧ ts.length - j < n ∧ m = ts.length - j ∧ ExN q H4 H' ∧
        Took K q dx l us ts H4 Q E (RobAt K) (andThen (takeSteps n ts j) fun ss o => andThen (takeK ["}"] ts o) fun _ r => .ok (⟨st, acc ++ ss⟩, r))) (ts.length - j4)
      ⟨[s], [v4], j4, ts.length + 1, rfl, upd_same, .cons (r4.es (ES.of e5)) .nil, TokAt.mono e5 (TokAt.es (ES.ofN x4 p3.ob) hst3), p5, l4, by have := (takeStep_lt hp.en l3 hs).1; show 1 ≤ j4; omega, by omega, rfl, ExN.of e5, k4⟩ ?_
    rintro m σ' H5 ⟨acc, vs, j, n, rfl, h5, ha5, hst5, p5, hj, hal, hn, rfl, x45, k5⟩
    refine ⟨!decide (kindAt ts j = "}"), et_test (ev_is (ev_op (ev_kind rfl p5 hj) ev_c (rv_ne rfl)) (congrArg (fun b => V.bl (!b)) (str_eq _ _))), fun hb H6 e6 => ?_, fun hb H6 e6 => ?_⟩
    · have hk : ¬ kindAt ts j = "}" := by simpa using hb
      have p6 := p5.ex e6
      have x46 := x45.trans (ExN.of e6)
      have k6 := k5
      obtain ⟨n, rfl⟩ : ∃ n', n = n' + 1 := ⟨n - 1, by omega⟩
      have eu : takeSteps (n + 1) ts j = andThen (takeStep ts j) fun s j => andThen (takeSteps n ts j) fun ss m => .ok (s :: ss, m) := by
        show (if kindAt ts j = "}" then _ else _) = _
        rw [if_neg hk]
      rw [eu] at k6
      have ea : (andThen (andThen (takeStep ts j) fun s j => andThen (takeSteps n ts j) fun ss m => .ok (s :: ss, m)) fun ss o => andThen (takeK ["}"] ts o) fun _ r => (.ok (⟨st, acc ++ ss⟩, r) : PR RobM)) =
          andThen (takeStep ts j) fun s1 j1 => andThen (takeSteps n ts j1) fun ss o => andThen (takeK ["}"] ts o) fun _ r => .ok (⟨st, (acc ++ [s1]) ++ ss⟩, r) := by
        cases takeStep ts j with
        | error e => rfl
        | ok x =>
          show andThen (andThen (takeSteps n ts x.2) fun ss m => .ok (x.1 :: ss, m)) _ = andThen (takeSteps n ts x.2) _
          cases takeSteps n ts x.2 with
          | error e => rfl
          | ok y =>
            show andThen (takeK ["}"] ts y.2) _ = andThen (takeK ["}"] ts y.2) _
            simp
      rw [ea] at k6
      have h6 := e6 _ _ h5
      refine ⟨fun σ2 H2 => ∃ (acc : List StepM) (vs : List V) (j1 n : Nat), σ2 = [some (.ref q), some sv, some (.ref p)] ∧ H2 p = some (.lst vs) ∧ All (StepAt K H2) vs acc ∧ TokAt K H2 sv st ∧ Par K H2 q dx l us ts j1 ∧ j1 < ts.length ∧ acc.length ≤ j1 ∧ ts.length - j1 < n ∧ j < j1 ∧ ExN q H4 H2 ∧
        Took K q dx l us ts H4 Q E (RobAt K) (andThen (takeSteps n ts j1) fun ss o => andThen (takeK ["}"] ts o) fun _ r => .ok (⟨st, acc ++ ss⟩, r)), ?_, ?_⟩
      · rintro σ2 H2 ⟨acc, vs, j1, n, q1, q2, q3, q4, q5, q6, q7, q8, q9, q10, q11⟩
        exact ⟨ts.length - j1, by omega, acc, vs, j1, n, q1, q2, q3, q4, q5, q6, q7, q8, rfl, q10, q11⟩
      refine s_appH rfl h6 (m_M (fun _ _ => rfl) rfl p6 hj ((k6.move x46 p6).bind fun s1 j1 hs1 v7 H7 x7 p7 r7 k7 => ?_))
      have hne : p ≠ q := ne_of h6 p6.ob (by intro z; cases z)
      have h7 := x7 _ _ hne h6
      have s7 := ES.ofN x7 p6.ob
      have lt := takeStep_lt hp.en hj hs1
      have sP : ES K H7 (upd H7 p (.lst (vs ++ [v7]))) := ES.put h7
      have hlen := ha5.len
      have := hp.sz
      refine ⟨vs, h7, by omega, acc ++ [s1], vs ++ [v7], j1, n, rfl, upd_same, (All.app (ha5.imp fun v x r => ((r.es (ES.of e6)).es s7)) (.cons r7 .nil)).imp fun v x r => r.es sP, TokAt.es sP (TokAt.es s7 (TokAt.mono e6 hst5)), p7.put h7 npl, lt.2, by rw [List.length_append]; simp; omega, by omega, lt.1, (x46.trans x7).put (xs := vs) np, k6.rest hs1⟩
    · have hk : kindAt ts j = "}" := by simpa using hb
      have p6 := p5.ex e6
      have k6 := k5.move (x45.trans (ExN.of e6)) p6
      obtain ⟨n, rfl⟩ : ∃ n', n = n' + 1 := ⟨n - 1, by omega⟩
      have eu : takeSteps (n + 1) ts j = .ok ([], j) := by
        show (if kindAt ts j = "}" then _ else _) = _
        rw [if_pos hk]
      rw [eu] at k6
      have k6' : Took K q dx l us ts H6 Q E (RobAt K) (andThen (takeK ["}"] ts j) fun _ r => .ok (⟨st, acc⟩, r)) := by
        have : (andThen (.ok ([], j)) fun ss o => andThen (takeK ["}"] ts o) fun _ r => (.ok (⟨st, acc ++ ss⟩, r) : PR RobM)) = andThen (takeK ["}"] ts j) fun _ r => .ok (⟨st, acc⟩, r) := by
          show andThen (takeK ["}"] ts j) _ = _
          rw [List.append_nil]
        rw [this] at k6
        exact k6
      refine q_dropH (m_take (ks := ["}"]) rfl p6 hj (ea_cons ev_c ea_nil) (by decide) (k6'.bind fun t8 o ht8 v8 H8 x8 p8 r8 k8 => ?_))
      have s8 := ES.ofN x8 p6.ob
      have h8 := x8 p _ (ne_of (e6 _ _ h5) p6.ob (by intro z; cases z)) (e6 _ _ h5)
      refine s_retP (P := fun v H' => RobAt K H' v ⟨st, acc⟩) (ep_make (ea_cons (ev_var rfl) (ea_cons (ev_var rfl) ea_nil)) rfl fun x da H9 e9 h9 => ⟨x, da, sv, p, vs, rfl, h9, TokAt.mono e9 (TokAt.es s8 (TokAt.mono e6 hst5)), e9 _ _ h8, ha5.imp fun v x r => ((r.es (ES.of e6)).es s8).es (ES.of e9)⟩) fun v H9 e9 hv => ?_
      exact k8.1 _ _ rfl v H9 (ExN.of e9) (p8.ex e9) hv

theorem ok_Parser_take_plan (T : Txt K mg) : FnR P w K mg base (L2.CX P w) 6 (He.ma K (He.ga K "Parser") "take_plan") (spM K (PlanAt K) takePlan) := by
  have G_Parser_take := ok_Parser_take (P := P) (w := w) (base := base) T
  have G_PlanTokens_init := ok_PlanTokens_init (P := P) (w := w) (base := base) T
  have G_Parser_next_kind := ok_Parser_next_kind (P := P) (w := w) (base := base) T
  have G_Parser_take_robot := ok_Parser_take_robot (P := P) (w := w) (base := base) T
  obtain ⟨fd, F⟩ := T.F_Parser_take_plan
  have B : Binds K fd P_Parser_take_plan [] := F.bindsN fun _ _ _ _ _ _ us hl => match us, hl with | [_], _ => rfl
  refine fnR_of F B (F.ok sc_Parser_take_plan (fun vs H Q E h => ?_) (fun cdv A outer s H vs Q E hr h => ?_))
  · obtain ⟨q, dx, l, us, ts, i, rfl, _⟩ := h
    rfl
  · have hu := hu_of hr
    obtain ⟨q, dx, l, us, ts, i, rfl, hp, hi, k⟩ := h
    refine ⟨_, (pss_cons (ps_set (i := 1) sc_Parser_take_plan.nd rfl (by first | exact Or.inl rfl | exact Or.inr rfl) (pe_methR (pv 0) T.c_Parser T.m_Parser_take G_Parser_take (hr.mono (by decide)) px (pa_cons pe_str pa_nil)))
        (pss_cons (ps_set (i := 2) sc_Parser_take_plan.nd rfl (by first | exact Or.inl rfl | exact Or.inr rfl) (pe_lst (pa_cons (pe_methR (pv 0) T.c_Parser T.m_Parser_take G_Parser_take (hr.mono (by decide)) px (pa_cons (pe_gs T.v_NUMBER) pa_nil)) pa_nil)))
        (pss_cons (ps_while (passes_of rfl) (pt_cmpR op_eq (pe_methR0 (pv 0) T.c_Parser T.m_Parser_next_kind G_Parser_next_kind (hr.mono (by decide)) px) (pe_gs T.v_NUMBER) (nomark _)) (pss_one (ps_expr (pe_bm PySem.F.plainAttrs_list PySem.F.slot_list_append PySem.F.type_list_append mt_append (pv 2) (pa_cons (pe_methR (pv 0) T.c_Parser T.m_Parser_take G_Parser_take (hr.mono (by decide)) px (pa_cons (pe_gs T.v_NUMBER) pa_nil)) pa_nil)))))
        (pss_cons (ps_expr (pe_methR (pv 0) T.c_Parser T.m_Parser_take G_Parser_take (hr.mono (by decide)) px (pa_cons pe_str pa_nil)))
        (pss_cons (ps_set (i := 3) sc_Parser_take_plan.nd rfl (by first | exact Or.inl rfl | exact Or.inr rfl) (pe_lst (pa_cons (pe_methR0 (pv 0) T.c_Parser T.m_Parser_take_robot G_Parser_take_robot (hr.mono (by decide)) px) (pa_cons (pe_methR0 (pv 0) T.c_Parser T.m_Parser_take_robot G_Parser_take_robot (hr.mono (by decide)) px) pa_nil))))
        (pss_cons (ps_expr (pe_methR (pv 0) T.c_Parser T.m_Parser_take G_Parser_take (hr.mono (by decide)) px (pa_cons (pe_gs T.v_END) pa_nil)))
        (pss_one (ps_ret (StX.pe_makeR T.k_PlanTokens G_PlanTokens_init (hr.mono (by decide)) (by rfl) T.g_PlanTokens px (pa_cons (pv 1) (pa_cons (pv 2) (pa_cons (pv 3) pa_nil)))))))))))), ?_⟩
    have bb : big + 10 < sizeLine := by decide
    refine q_setH (m_take (ks := ["shelf"]) rfl hp hi (ea_cons ev_c ea_nil) (by decide) (k.bind fun kw j1 ht1 kv H1 x1 p1 r1 k1 => ?_))
    have l1 := takeK_lt hp.en (by decide +kernel) ht1
    refine q_lst1H (m_take (ks := ["number"]) rfl p1 l1 (ea_cons ev_c ea_nil) (by decide) (k1.bind fun n0 j4 ht2 v4 H4 x4 p4 r4 k4 => ?_))
    have l4 := takeK_lt hp.en (by decide +kernel) ht2
    intro p np
    have e5 : Ex H4 (upd H4 p (.lst [v4])) := Ex.new np
    have npl : p ≠ l := fun z => by
      rw [z, p4.ls] at np
      cases np
    have p5 := p4.ex e5
    refine q_while (fun m σ' H' => ∃ (acc : List Tk) (vs : List V) (j n : Nat), σ' = [some (.ref q), some kv, some (.ref p), none] ∧ H' p = some (.lst vs) ∧ All (TokAt K H') vs acc ∧ TokAt K H' kv kw ∧ Par K H' q dx l us ts j ∧ j < ts.length ∧ acc.length ≤ j ∧ ts.length - j < n ∧ m = ts.length - j ∧ ExN q H4 H' ∧
        Took K q dx l us ts H4 Q E (PlanAt K) (andThen (takeNums n ts j) fun ns n => andThen (takeK [";"] ts n) fun _ o => andThen (takeRobot ts o) fun r0 p => andThen (takeRobot ts p) fun r1 q => andThen (takeK ["end"] ts q) fun _ r => .ok (⟨kw, acc ++ ns, [r0, r1]⟩, r))) (ts.length - j4)
      ⟨[n0], [v4], j4, ts.length + 1, rfl, upd_same, .cons (TokAt.mono e5 r4) .nil, TokAt.mono e5 (TokAt.es (ES.ofN x4 p1.ob) r1), p5, l4, by have := (takeK_ok ht2).2.2; show 1 ≤ j4; omega, by omega, rfl, ExN.of e5, k4⟩ ?_
    rintro m σ' H5 ⟨acc, vs, j, n, rfl, h5, ha5, hst5, p5, hj, hal, hn, rfl, x45, k5⟩
    refine ⟨decide (kindAt ts j = "number"), et_test (ev_is (ev_op (ev_kind rfl p5 hj) ev_c (rv_eq rfl)) (congrArg V.bl (str_eq _ _))), fun hb H6 e6 => ?_, fun hb H6 e6 => ?_⟩
    · have hk : kindAt ts j = "number" := of_decide_eq_true hb
      have p6 := p5.ex e6
      have x46 := x45.trans (ExN.of e6)
      have k6 := k5
      obtain ⟨n, rfl⟩ : ∃ n', n = n' + 1 := ⟨n - 1, by omega⟩
      have eu : takeNums (n + 1) ts j = andThen (takeK ["number"] ts j) fun t j => andThen (takeNums n ts j) fun r m => .ok (t :: r, m) := by
        show (if kindAt ts j = "number" then _ else _) = _
        rw [if_pos hk]
      rw [eu] at k6
      have ea : ∀ F : List Tk → Nat → PR PlanM, (andThen (andThen (takeK ["number"] ts j) fun t j => andThen (takeNums n ts j) fun r m => .ok (t :: r, m)) F) = andThen (takeK ["number"] ts j) fun t j => andThen (takeNums n ts j) fun r m => F (t :: r) m := fun F => by
        cases takeK ["number"] ts j with
        | error e => rfl
        | ok x =>
          show andThen (andThen (takeNums n ts x.2) fun r m => .ok (x.1 :: r, m)) _ = andThen (takeNums n ts x.2) _
          cases takeNums n ts x.2 with
          | error e => rfl
          | ok y => rfl
      rw [ea] at k6
      have h6 := e6 _ _ h5
      refine ⟨fun σ2 H2 => ∃ (acc : List Tk) (vs : List V) (j1 n : Nat), σ2 = [some (.ref q), some kv, some (.ref p), none] ∧ H2 p = some (.lst vs) ∧ All (TokAt K H2) vs acc ∧ TokAt K H2 kv kw ∧ Par K H2 q dx l us ts j1 ∧ j1 < ts.length ∧ acc.length ≤ j1 ∧ ts.length - j1 < n ∧ j < j1 ∧ ExN q H4 H2 ∧
        Took K q dx l us ts H4 Q E (PlanAt K) (andThen (takeNums n ts j1) fun ns n => andThen (takeK [";"] ts n) fun _ o => andThen (takeRobot ts o) fun r0 p => andThen (takeRobot ts p) fun r1 q => andThen (takeK ["end"] ts q) fun _ r => .ok (⟨kw, acc ++ ns, [r0, r1]⟩, r)), ?_, ?_⟩
      · rintro σ2 H2 ⟨acc, vs, j1, n, q1, q2, q3, q4, q5, q6, q7, q8, q9, q10, q11⟩
        exact ⟨ts.length - j1, by omega, acc, vs, j1, n, q1, q2, q3, q4, q5, q6, q7, q8, rfl, q10, q11⟩
      refine s_appH rfl h6 (m_take (ks := ["number"]) rfl p6 hj (ea_cons ev_c ea_nil) (by decide) ((k6.move x46 p6).bind fun s1 j1 hs1 v7 H7 x7 p7 r7 k7 => ?_))
      have hne : p ≠ q := ne_of h6 p6.ob (by intro z; cases z)
      have h7 := x7 _ _ hne h6
      have s7 := ES.ofN x7 p6.ob
      have lt := takeK_lt hp.en (by decide +kernel) hs1
      have lt2 := (takeK_ok hs1).2.2
      have sP : ES K H7 (upd H7 p (.lst (vs ++ [v7]))) := ES.put h7
      have hlen := ha5.len
      have := hp.sz
      refine ⟨vs, h7, by omega, acc ++ [s1], vs ++ [v7], j1, n, rfl, upd_same, (All.app (ha5.imp fun v x r => ((TokAt.mono e6 r).es s7)) (.cons r7 .nil)).imp fun v x r => r.es sP, TokAt.es sP (TokAt.es s7 (TokAt.mono e6 hst5)), p7.put h7 npl, lt, by rw [List.length_append]; simp; omega, by omega, by omega, (x46.trans x7).put (xs := vs) np, ?_⟩
      have kr := k6.rest hs1
      simpa only [List.append_assoc, List.singleton_append] using kr
    · have hk : ¬ kindAt ts j = "number" := of_decide_eq_false hb
      have p6 := p5.ex e6
      have k6 := k5.move (x45.trans (ExN.of e6)) p6
      obtain ⟨n, rfl⟩ : ∃ n', n = n' + 1 := ⟨n - 1, by omega⟩
      have eu : takeNums (n + 1) ts j = .ok ([], j) := by
        show (if kindAt ts j = "number" then _ else _) = _
        rw [if_neg hk]
      rw [eu] at k6
      replace k6 := Took.rest k6 rfl
      rw [List.append_nil] at k6
      refine q_dropH (m_take (ks := [";"]) rfl p6 hj (ea_cons ev_c ea_nil) (by decide) (k6.bind fun t8 o ht8 v8 H8 x8 p8 r8 k8 => ?_))
      have l8 := takeK_lt hp.en (by decide +kernel) ht8
      have hpq : p ≠ q := ne_of h5 p5.ob (by intro z; cases z)
      have s8 := ES.ofN x8 p6.ob
      have h8 := x8 p _ hpq (e6 _ _ h5)
      have a8 := ha5.imp fun v x r => (TokAt.mono e6 r).es s8
      have t8' := TokAt.es s8 (TokAt.mono e6 hst5)
      -- robots = [self.take_robot(), self.take_robot()]
      refine m_M (fun _ _ => rfl) rfl p8 l8 (k8.bind fun r0 i9 hr9 v9 H9 x9 p9 rr9 k9 => ?_)
      have l9 := (takeRobot_lt hp.en l8 hr9).2
      refine m_M (fun _ _ => rfl) rfl p9 l9 (k9.bind fun r1 i10 hr10 v10 H10 x10 p10 rr10 k10 => ?_)
      have l10 := (takeRobot_lt hp.en l9 hr10).2
      refine ⟨by show 2 ≤ sizeLine; decide, fun rp nrp => ?_⟩
      have e11 : Ex H10 (upd H10 rp (.lst [v9, v10])) := Ex.new nrp
      have s9 := ES.ofN x9 p8.ob
      have s10 := ES.ofN x10 p9.ob
      have p11 := p10.ex e11
      have rr9' := (RobAt.exn x10 p9.ob rr9).ex e11
      have rr10' := rr10.ex e11
      have h11 := e11 _ _ (x10 p _ hpq (x9 p _ hpq h8))
      have a11 := a8.imp fun v x r => TokAt.mono e11 (TokAt.es s10 (TokAt.es s9 r))
      have t11 := TokAt.mono e11 (TokAt.es s10 (TokAt.es s9 t8'))
      refine q_dropH (m_take (ks := ["end"]) rfl p11 l10 (ea_cons ev_c ea_nil) (by decide) ((k10.move (ExN.of e11) p11).bind fun te i12 hte v12 H12 x12 p12 r12 k12 => ?_))
      have s12 := ES.ofN x12 p11.ob
      have hrq : rp ≠ q := fun z => by
        rw [z, p10.ob] at nrp
        cases nrp
      have h12 := x12 p _ hpq h11
      have hr12 := x12 rp _ hrq upd_same
      refine s_retP (P := fun v H' => PlanAt K H' v ⟨kw, acc, [r0, r1]⟩) (ep_make (ea_cons (ev_var rfl) (ea_cons (ev_var rfl) (ea_cons (ev_var rfl) ea_nil))) rfl fun x da H13 e13 h13 => ⟨x, da, kv, p, vs, rp, [v9, v10], rfl, h13, TokAt.mono e13 (TokAt.es s12 t11), e13 _ _ h12,
        a11.imp fun v x r => TokAt.mono e13 (TokAt.es s12 r), e13 _ _ hr12, .cons ((RobAt.exn x12 p11.ob rr9').ex e13) (.cons ((RobAt.exn x12 p11.ob rr10').ex e13) .nil)⟩) fun v H13 e13 hv => ?_
      exact k12.1 _ _ rfl v H13 (ExN.of e13) (p12.ex e13) hv


/-- the parse of a text -/
def Parses {α : Type} (K : PySem.W.Frag) (H : Hp) (Q : VK) (E : XK) (R : Hp → V → α → Prop) (r : Except Err α) : Prop :=
  (∀ a, r = .ok a → ∀ v H', Ex H H' → R H' v a → Q v H') ∧ (∀ e, r = .error e → Fails H E (He.ga K "SyntaxFault") (sfF (e.1 : Nat) (e.2 : Nat)))
def spParse (K : PySem.W.Frag) : Sp := fun vs H Q E => ∃ z : Str, vs = [.str z] ∧ z.length + 10 ≤ big ∧ Parses K H Q E (PlanAt K) (parse z)

theorem ok_parse_plan (T : Txt K mg) : FnR P w K mg base (L2.CX P w) 7 (He.ga K "parse_plan") (spParse K) := by
  have G_Parser_take_plan := ok_Parser_take_plan (P := P) (w := w) (base := base) T
  have G_Parser_init := ok_Parser_init (P := P) (w := w) (base := base) T
  have G_read_tokens := ok_read_tokens (P := P) (w := w) (base := base) T
  have KP_read_tokens : PySem.W.keepIn K (.ref (He.ga K "read_tokens")) = true := by
    obtain ⟨_, F⟩ := T.F_read_tokens
    exact F.kp
  obtain ⟨fd, F⟩ := T.F_parse_plan
  have B : Binds K fd P_parse_plan [] := F.bindsN fun _ _ _ _ _ _ us hl => match us, hl with | [_], _ => rfl
  refine fnR_of F B (F.ok sc_parse_plan (fun vs H Q E h => ?_) (fun cdv A outer s H vs Q E hr h => ?_))
  · obtain ⟨z, rfl, _⟩ := h
    rfl
  · have hu := hu_of hr
    obtain ⟨z, rfl, hz, k⟩ := h
    refine ⟨_, (pss_one (ps_ret (pe_methR0 (StX.pe_makeR T.k_Parser G_Parser_init (hr.mono (by decide)) (by rfl) T.g_Parser px (pa_cons (pe_callR G_read_tokens (hr.mono (by decide)) T.g_read_tokens KP_read_tokens px (pa_cons (pv 0) pa_nil)) pa_nil)) T.c_Parser T.m_Parser_take_plan G_Parser_take_plan (hr.mono (by decide)) px))), ?_⟩
    refine s_retH ?_
    refine ⟨_, rfl, ?_⟩
    refine ⟨z, rfl, hz, fun ts hts v H1 e1 ht => ?_, fun l c hlc => ?_⟩
    · obtain ⟨l, us, rfl, hl, ha⟩ := ht
      obtain ⟨f1, f2, f3, f4⟩ := lex_facts hts
      have bb : big = 1000000 := rfl
      intro x dx nx n2 n3
      refine ⟨x, dx, [.ref l], parF l 0, rfl, rfl, upd_same, fun H2 ho kp => ⟨rfl, ?_⟩⟩
      have s2 : Ex H1 H2 := fun b o q => kp b o (by rw [upd_ne (ne_of_none q nx), upd_ne (ne_of_none q n2)]; exact q) (ne_of_none q nx)
      have e2 : Ex H1 H2 := s2
      have nH : H x = none := fresh_back e1 nx
      have eN : ∀ {H' : Hp}, ExN x H2 H' → Ex H H' := fun {H'} xx a o h => xx a o (ne_of_none h nH) (e2 _ _ (e1 _ _ h))
      refine ⟨x, dx, _, rfl, ho, rfl, x, dx, l, us, ts, 0, rfl, ⟨ho, e2 _ _ hl, ha.imp fun v x r => TokAt.mono e2 r, fun t ht => ?_, by omega, f4⟩, f3, fun a j haj v H' xx pp rr => ?_, fun e he d H' xx nd hd => ?_⟩
      · have := f1 t ht
        omega
      · exact k.1 a (by unfold parse; rw [hts]; dsimp only; rw [haj]) v H' (eN xx) rr
      · exact k.2 e (by unfold parse; rw [hts]; dsimp only; rw [he]) d H' (eN xx) (fresh_back (e1.trans e2) nd) hd
    · exact k.2 (l, c) (by unfold parse; rw [hlc])

end SB

set_option maxHeartbeats 4000000
namespace SB
open PySem PySem.Spec PyProof.Rows L2
open TL (tl)
open Evl
variable {P : Program} {w : World} {K : PySem.W.Frag} {mg : Str → Option Value} {base : Heap}


def StepsAt (K : PySem.W.Frag) (H : Hp) (v : V) (ss : List StepM) : Prop := LAt H (StepAt K H) v ss
theorem StepsAt.ex {K : PySem.W.Frag} {H H' : Hp} {v : V} {ss : List StepM} (e : Ex H H') (h : StepsAt K H v ss) : StepsAt K H' v ss := by
  obtain ⟨a, vs, rfl, h1, h2⟩ := h
  exact ⟨a, vs, rfl, e _ _ h1, h2.imp fun v x r => r.es (ES.of e)⟩
theorem PlanAt.ex {K : PySem.W.Frag} {H H' : Hp} {v : V} {p : PlanM} (e : Ex H H') (h : PlanAt K H v p) : PlanAt K H' v p := by
  obtain ⟨a, dx, kv, n, ns, r, rs, e1, e2, h1, h2, h3, h4, h5⟩ := h
  exact ⟨a, dx, kv, n, ns, r, rs, e1, e _ _ e2, h1.mono e, e _ _ h2, h3.imp fun v x r => r.mono e, e _ _ h4, h5.imp fun v x r => r.ex e⟩
/-- a new list | a new dict -/
def RetN (o : HO) (H : Hp) (Q : VK) : Prop := ∀ p H2, H p = none → Ex H H2 → H2 p = some o → Q (.ref p) H2
def spFL (K : PySem.W.Frag) : Sp := fun vs H Q _ => ∃ v ss, vs = [v] ∧ StepsAt K H v ss ∧ ss.length ≤ 1000 ∧ RetN (.dK (firstLabs ss)) H Q
theorem opt_non {K : PySem.W.Frag} {H : Hp} {v : V} {o : Option Tk} (h : OptAt K H v o) : decide (v = V.non) = o.isNone := by
  cases o with
  | none =>
    have e : v = V.non := h
    rw [e]
    rfl
  | some t =>
    obtain ⟨a, dx, e, _⟩ := h
    rw [e]
    rfl

theorem ok_first_labels (T : Txt K mg) : FnR P w K mg base (L2.CX P w) 1 (He.ga K "first_labels") (spFL K) := by
  obtain ⟨fd, F⟩ := T.F_first_labels
  have B : Binds K fd P_first_labels [] := F.bindsN fun _ _ _ _ _ _ us hl => match us, hl with | [_], _ => rfl
  refine fnR_of F B (F.ok sc_first_labels (fun vs H Q E h => ?_) (fun cdv A outer s H vs Q E hr h => ?_))
  · obtain ⟨v, ss, rfl, _⟩ := h
    rfl
  · have hu := hu_of hr
    obtain ⟨v, ss, rfl, hs, hz, k⟩ := h
    refine ⟨_, (pss_cons (ps_set (i := 1) sc_first_labels.nd rfl (by first | exact Or.inl rfl | exact Or.inr rfl) pe_dnewK)
        (pss_cons (ps_for (passes_of rfl) rfl (pi_enum (by rfl) T.b_enumerate (pa_cons (pv 0) pa_nil)) (pg_tup rfl (pgs_cons (pg_name (i := 2) sc_first_labels.nd rfl (by first | exact Or.inl rfl | exact Or.inr rfl)) (pgs_cons (pg_name (i := 3) sc_first_labels.nd rfl (by first | exact Or.inl rfl | exact Or.inr rfl)) pgs_nil))) (pss_one (ps_if (pt_cmpR op_notN (pe_fld (pv 3) rfl) pe_non (nomark _)) (pss_one (ps_expr (pe_dsetd (pv 1) (pe_fld (pe_fld (pv 3) rfl) rfl) (pv 2) ⟨rfl, rfl, rfl, rfl⟩))) pss_nil)))
        (pss_one (ps_ret (pv 1))))), ?_⟩
    obtain ⟨a, ws, rfl, hl, hA⟩ := hs
    have hlen := hA.len
    have bl : 1000 < sizeLine := by decide
    refine q_setH fun d hd => ?_
    have e1 : Ex H (upd H d (.dK [])) := Ex.new hd
    refine q_forEnum (ea_cons (ev_var rfl) ea_nil) (sq_of (e1 _ _ hl)) rfl (fun i σ' H' => ∃ (m : KVs) (x y : Option V), σ' = [some (.ref a), some (.ref d), x, y] ∧ Ex H H' ∧ H' d = some (.dK m) ∧ m.length ≤ i ∧ firstLabs ss = labsFrom (ss.drop i) i m)
      (fun H2 e2 => ⟨[], none, none, rfl, e1.trans e2, e2 _ _ upd_same, Nat.le_refl _, by rw [List.drop_zero]; rfl⟩) (fun i σ' H' _ ⟨_, _, _, _, e, _⟩ => sq_of (e _ _ hl)) ?_ ?_
    · rintro i v σ' H' H2 hv ⟨m, x, y, rfl, e2, h2, hm, hf⟩ e3
      obtain ⟨s, hs, sa, sdx, lv, cv, tv, rfl, h3, hlab, hc, ht⟩ := hA.getV hv
      have hi := (List.getElem?_eq_some_iff.mp hs).1
      have hdp : ss.drop i = s :: ss.drop (i + 1) := by
        rw [List.drop_eq_getElem_cons hi]
        rw [List.getElem?_eq_getElem hi] at hs
        rw [Option.some.inj hs]
      rw [hdp] at hf
      have e23 := e2.trans e3
      refine s_when (b := !s.label.isNone) (et_test (ev_is (ev_op (ev_fld (ev_var rfl) (e23 _ _ h3) T.c_StepTokens T.n_StepTokens_label rfl) ev_c rv_noN) (congrArg (fun b => V.bl (!b)) (opt_non hlab)))) (fun hb H4 e4 => ?_) (fun hb H4 e4 => ?_)
      · obtain ⟨t, et⟩ : ∃ t, s.label = some t := by
          cases q : s.label with
          | none => rw [q] at hb; cases hb
          | some t => exact ⟨t, rfl⟩
        rw [et] at hlab
        obtain ⟨ta, tdx, rfl, hta⟩ := hlab
        have e24 := e23.trans e4
        have h24 := e4 _ _ (e3 _ _ h2)
        have ep : labPut m s.label i = match valV m (.inr t.text : Key) with
          | some _ => m
          | none => putK m (.inr t.text : Key) (.int i) := by rw [et]; rfl
        refine s_dropH ⟨_, rfl, d, rfl, .inl ⟨m, .inl h24⟩, ev_fld (ev_fld (ev_var rfl) (e24 _ _ h3) T.c_StepTokens T.n_StepTokens_label rfl) (e24 _ _ hta) T.c_Token T.n_Token_text rfl H4 (Ex.refl _) _ fun H5 e5 => ⟨_, rfl, m, .inr t.text, e5 _ _ h24, rfl, by omega, fun v hv => ?_, fun hv => ?_⟩⟩
        · refine ⟨m, _, _, rfl, e24.trans e5, e5 _ _ h24, by omega, ?_⟩
          rw [hf]
          show labsFrom _ _ (labPut m s.label i) = _
          rw [ep, hv]
        · refine ⟨putK m (.inr t.text : Key) (.int i), _, _, rfl, Ex.mut (e24.trans e5) hd, upd_same, ?_, ?_⟩
          · rw [putK_new _ hv, List.length_append]
            show m.length + 1 ≤ i + 1
            omega
          · rw [hf]
            show labsFrom _ _ (labPut m s.label i) = _
            rw [ep, hv]
      · refine ⟨m, _, _, rfl, e23.trans e4, e4 _ _ (e3 _ _ h2), by omega, ?_⟩
        rw [hf]
        show labsFrom _ _ (labPut m s.label i) = _
        have : s.label = none := by
          cases q : s.label with
          | none => rfl
          | some t => rw [q] at hb; cases hb
        rw [this]
        rfl
    · rintro σ' H' ⟨m, x, y, rfl, e2, h2, hm, hf⟩
      rw [hlen, List.drop_length] at hf
      refine s_ret (ev_var rfl) fun H3 e3 => k d H3 hd (e2.trans e3) ?_
      rw [hf]
      exact e3 _ _ h2


def spStF (K : PySem.W.Frag) : Sp := fun vs H Q _ => ∃ v ss, vs = [v] ∧ StepsAt K H v ss ∧ ValidS ss ∧ RetN (.lst []) H Q
def spPlF (K : PySem.W.Frag) : Sp := fun vs H Q _ => ∃ v p bx a b r0 r1, vs = [v] ∧ PlanAt K H v p ∧ ValidP p bx a b r0 r1 ∧ RetN (.lst []) H Q
def spCk (K : PySem.W.Frag) : Sp := fun vs H Q _ => ∃ v p bx a b r0 r1, vs = [v] ∧ PlanAt K H v p ∧ ValidP p bx a b r0 r1 ∧ RetV .non H Q
theorem and_f {a b : Bool} (h : a = true → b = false) : (a && b) = false := by
  cases a with
  | false => rfl
  | true => exact h rfl
theorem pt_nums {p : PlanM} {bx : List Nat} {a b : Nat} {r0 r1 : RobM} (V : ValidP p bx a b r0 r1) : p.numbers.length = bx.length := by
  have := congrArg List.length V.nums
  simpa using this
theorem num_at {p : PlanM} {bx : List Nat} {a b : Nat} {r0 r1 : RobM} (V : ValidP p bx a b r0 r1) {i : Nat} {t : Tk} (h : p.numbers[i]? = some t) : ∃ n, bx[i]? = some n ∧ t.text = numS n ∧ n ≤ 3 := by
  have e : (p.numbers.map (·.text))[i]? = (bx.map numS)[i]? := by rw [V.nums]
  rw [List.getElem?_map, List.getElem?_map, h] at e
  cases q : bx[i]? with
  | none => rw [q] at e; cases e
  | some n =>
    rw [q] at e
    exact ⟨n, rfl, Option.some.inj e, V.most n (List.mem_of_getElem? q)⟩

theorem ok_step_faults (T : Txt K mg) : FnR P w K mg base (L2.CX P w) 2 (He.ga K "step_faults") (spStF K) := by
  have G_first_labels := ok_first_labels (P := P) (w := w) (base := base) T
  have KP_first_labels : PySem.W.keepIn K (.ref (He.ga K "first_labels")) = true := by
    obtain ⟨_, F⟩ := T.F_first_labels
    exact F.kp
  obtain ⟨fd, F⟩ := T.F_step_faults
  have B : Binds K fd P_step_faults [] := F.bindsN fun _ _ _ _ _ _ us hl => match us, hl with | [_], _ => rfl
  refine fnR_of F B (F.ok sc_step_faults (fun vs H Q E h => ?_) (fun cdv A outer s H vs Q E hr h => ?_))
  · obtain ⟨v, ss, rfl, _⟩ := h
    rfl
  · have hu := hu_of hr
    obtain ⟨v, ss, rfl, hs, hV, k⟩ := h
    refine ⟨_, (pss_cons (ps_set (i := 1) sc_step_faults.nd rfl (by first | exact Or.inl rfl | exact Or.inr rfl) (pe_lst pa_nil))
        (pss_cons (ps_set (i := 2) sc_step_faults.nd rfl (by first | exact Or.inl rfl | exact Or.inr rfl) (pe_callR G_first_labels (hr.mono (by decide)) T.g_first_labels KP_first_labels px (pa_cons (pv 0) pa_nil)))
        (pss_cons (ps_for (passes_of rfl) rfl (pi_enum (by rfl) T.b_enumerate (pa_cons (pv 0) pa_nil)) (pg_tup rfl (pgs_cons (pg_name (i := 3) sc_step_faults.nd rfl (by first | exact Or.inl rfl | exact Or.inr rfl)) (pgs_cons (pg_name (i := 4) sc_step_faults.nd rfl (by first | exact Or.inl rfl | exact Or.inr rfl)) pgs_nil))) (pss_cons (ps_if (pt_cmpR op_ge (pv 3) (pe_gi T.v_MOST_STEPS) (nomark _)) (pss_one ps_never) pss_nil)
        (pss_cons (ps_if (pw_and (pt_cmpR op_notN (pe_fld (pv 4) rfl) pe_non (nomark _)) (pw_and1 (pt_cmpR op_lt (pe_dget hu (pv 2) (pe_fld (pe_fld (pv 4) rfl) rfl) (fun _ _ => rfl)) (pv 3) (nomark _)))).pt (pss_one ps_never) pss_nil)
        (pss_one (ps_if (pw_and (pt_cmpR op_notN (pe_fld (pv 4) rfl) pe_non (nomark _)) (pw_and1 (pt_cmp (pc_dnotin hu (pe_fld (pe_fld (pv 4) rfl) rfl) (pv 2))))).pt (pss_one ps_never) pss_nil)))))
        (pss_one (ps_ret (pv 1)))))), ?_⟩
    obtain ⟨a, ws, rfl, hl, hA⟩ := hs
    have hlen := hA.len
    have h20 := hV.len
    refine q_asgL (el_lst ea_nil (by decide)) fun p H1 hp e1 h1 => ?_
    refine q_setH ⟨_, rfl, .ref a, ss, rfl, ⟨a, ws, rfl, e1 _ _ hl, hA.imp fun v x r => r.es (ES.of e1)⟩, by omega, fun d H2 hd e2 h2 => ?_⟩
    have e12 := e1.trans e2
    refine q_forEnum (ea_cons (ev_var rfl) ea_nil) (sq_of (e12 _ _ hl)) rfl (fun i σ' H' => ∃ (x y : Option V), σ' = [some (.ref a), some (.ref p), some (.ref d), x, y] ∧ Ex H2 H')
      (fun H3 e3 => ⟨none, none, rfl, e3⟩) (fun i σ' H' _ ⟨_, _, _, e⟩ => sq_of (e _ _ (e12 _ _ hl))) ?_ ?_
    · rintro i v σ' H' H3 hv ⟨x, y, rfl, e2'⟩ e3'
      obtain ⟨s, hs, sa, sdx, lv, cv, tv, rfl, h3, hlab, hc, ht⟩ := hA.getV hv
      have hi := (List.getElem?_eq_some_iff.mp hs).1
      have e3 := e2'.trans e3'
      have e03 := e12.trans e3
      have hd3 : H3 d = some (.dK (firstLabs ss)) := e3 _ _ h2
      refine q_when (b := false) (et_test (ev_is (ev_op (ev_var rfl) ev_c rv_I0) (congrArg V.bl (decide_eq_false ?_)))) (fun hb => absurd hb (by decide)) (fun _ H4 e4 => ?_)
      · omega
      have e04 := e03.trans e4
      have hlab4 := hlab.es (ES.of e04)
      have b1 : (!s.label.isNone && false) = false := by cases s.label.isNone <;> rfl
      refine q_when (b := false) (et_is (et_and (et_test (ev_is (ev_op (ev_fld (ev_var rfl) (e04 _ _ h3) T.c_StepTokens T.n_StepTokens_label rfl) ev_c rv_noN) (congrArg (fun b => V.bl (!b)) (opt_non hlab4)))) (b := false) fun hsome => ?_) b1) (fun hb => absurd hb (by decide)) (fun _ H5 e5 => ?_)
      · obtain ⟨t, et⟩ : ∃ t, s.label = some t := by
          cases q : s.label with
          | none => rw [q] at hsome; cases hsome
          | some t => exact ⟨t, rfl⟩
        rw [et] at hlab4
        obtain ⟨ta, tdx, rfl, hta⟩ := hlab4
        have own := hV.own i s t hs et
        refine et_test (ev_is (ev_op (ev_dget (v := .int (i : Int)) (z := t.text) (ev_var rfl) (ev_fld (ev_fld (ev_var rfl) (e04 _ _ h3) T.c_StepTokens T.n_StepTokens_label rfl) hta T.c_Token T.n_Token_text rfl) (e4 _ _ hd3) ?_) (ev_var rfl) rv_I0) (congrArg V.bl (decide_eq_false (Int.lt_irrefl _))))
        rw [firstLabs_val, own]
        rfl
      have e05 := e04.trans e5
      have htg5 := ht.es (ES.of e05)
      have b2 : (!s.target.isNone && false) = false := by cases s.target.isNone <;> rfl
      refine s_when (b := false) (et_is (et_and (et_test (ev_is (ev_op (ev_fld (ev_var rfl) (e05 _ _ h3) T.c_StepTokens T.n_StepTokens_target rfl) ev_c rv_noN) (congrArg (fun b => V.bl (!b)) (opt_non htg5)))) (b := false) fun hsome => ?_) b2) (fun hb => absurd hb (by decide)) (fun _ H6 e6 => ⟨_, _, rfl, ((e3.trans e4).trans e5).trans e6⟩)
      obtain ⟨t, et⟩ : ∃ t, s.target = some t := by
        cases q : s.target with
        | none => rw [q] at hsome; cases hsome
        | some t => exact ⟨t, rfl⟩
      rw [et] at htg5
      obtain ⟨ta, tdx, rfl, hta⟩ := htg5
      obtain ⟨n, hn⟩ := hV.tgt s t (List.mem_of_getElem? hs) et
      refine et_is (et_test (ev_dnin (z := t.text) (ev_fld (ev_fld (ev_var rfl) (e05 _ _ h3) T.c_StepTokens T.n_StepTokens_target rfl) hta T.c_Token T.n_Token_text rfl) (ev_var rfl) ((e4.trans e5) _ _ hd3))) ?_
      rw [firstLabs_val, hn]
      rfl
    · rintro σ' H' ⟨x, y, rfl, e3⟩
      refine s_ret (ev_var rfl) fun H4 e4 => k p H4 hp ((e12.trans e3).trans e4) ((e2.trans (e3.trans e4)) _ _ h1)

theorem ok_shelf_faults (T : Txt K mg) : FnR P w K mg base (L2.CX P w) 1 (He.ga K "shelf_faults") (spPlF K) := by
  obtain ⟨fd, F⟩ := T.F_shelf_faults
  have B : Binds K fd P_shelf_faults [] := F.bindsN fun _ _ _ _ _ _ us hl => match us, hl with | [_], _ => rfl
  refine fnR_of F B (F.ok sc_shelf_faults (fun vs H Q E h => ?_) (fun cdv A outer s H vs Q E hr h => ?_))
  · obtain ⟨v, p, bx, a, b, r0, r1, rfl, _⟩ := h
    rfl
  · have hu := hu_of hr
    obtain ⟨v, pl, bx, a, b, r0, r1, rfl, hs, hV, k⟩ := h
    refine ⟨_, (pss_cons (ps_set (i := 1) sc_shelf_faults.nd rfl (by first | exact Or.inl rfl | exact Or.inr rfl) (pe_lst pa_nil))
        (pss_cons (ps_if (pt_cmpR op_lt (pe_callB call_len_seq (by rfl) T.b_len (by decide +kernel) (pa_cons (pe_fld (pv 0) rfl) pa_nil)) (pe_gi T.v_FEWEST_CELLS) (nomark _)) (pss_one ps_never) pss_nil)
        (pss_cons (ps_if (pt_cmpR op_gt (pe_callB call_len_seq (by rfl) T.b_len (by decide +kernel) (pa_cons (pe_fld (pv 0) rfl) pa_nil)) (pe_gi T.v_MOST_CELLS) (nomark _)) (pss_one ps_never) pss_nil)
        (pss_cons (ps_for (passes_of rfl) rfl (pi_list (pe_fld (pv 0) rfl)) (pg_name (i := 2) sc_shelf_faults.nd rfl (by first | exact Or.inl rfl | exact Or.inr rfl)) (pss_one (ps_if (pt_cmpR op_gt (pe_callTy call_int_str (by rfl) T.b_int (by decide +kernel) (pa_cons (pe_fld (pv 2) rfl) pa_nil)) (pe_gi T.v_MOST_BOXES) (nomark _)) (pss_one ps_never) pss_nil)))
        (pss_one (ps_ret (pv 1))))))), ?_⟩
    obtain ⟨pa, pdx, kv, na, ns, ra, rs, rfl, h0, hk, hn, hN, hr, hR⟩ := hs
    have hlen := hN.len
    have hnl := pt_nums hV
    have hlo := hV.lo
    have hhi := hV.hi
    refine q_asgL (el_lst ea_nil (by decide)) fun p H1 hp e1 h1 => ?_
    refine q_when (b := false) (et_test (ev_is (ev_op (ev_len (xs := ns) (ev_fld (ev_var rfl) (e1 _ _ h0) T.c_PlanTokens T.n_PlanTokens_numbers rfl) (sq_of (e1 _ _ hn))) ev_c rv_I0) (congrArg V.bl (decide_eq_false (by omega))))) (fun hb => absurd hb (by decide)) (fun _ H2 e2 => ?_)
    have e12 := e1.trans e2
    refine q_when (b := false) (et_test (ev_is (ev_op (ev_len (xs := ns) (ev_fld (ev_var rfl) (e12 _ _ h0) T.c_PlanTokens T.n_PlanTokens_numbers rfl) (sq_of (e12 _ _ hn))) ev_c rv_I0) (congrArg V.bl (decide_eq_false (by omega))))) (fun hb => absurd hb (by decide)) (fun _ H3 e3 => ?_)
    have e13 := e12.trans e3
    refine q_forLn (xs := ns) (ev_fld (ev_var rfl) (e13 _ _ h0) T.c_PlanTokens T.n_PlanTokens_numbers rfl) (sq_of (e13 _ _ hn)) (fun i σ' H' => ∃ (x : Option V), σ' = [some (.ref pa), some (.ref p), x] ∧ Ex H3 H') (fun H4 e4 => ⟨none, rfl, e4⟩) (fun i σ' H' _ ⟨_, _, e⟩ => sq_of (e _ _ (e13 _ _ hn))) ?_ ?_
    · rintro i v σ' H' hv ⟨x, rfl, e4⟩
      obtain ⟨t, ht, ta, tdx, rfl, hta⟩ := hN.getV hv
      obtain ⟨n, hbn, htx, hn3⟩ := num_at hV ht
      have hta' := (e13.trans e4) _ _ hta
      refine s_when (b := false) (et_test (ev_is (ev_op (ev_intS (n := n) (ev_fld (ev_var rfl) hta' T.c_Token T.n_Token_text rfl) (by rw [htx]; exact numS_int (by omega)) (by rw [htx]; have := numS_len (n := n) (by omega); omega)) ev_c rv_I0) (congrArg V.bl (decide_eq_false (by omega))))) (fun hb => absurd hb (by decide)) (fun _ H5 e5 => ⟨_, rfl, e4.trans e5⟩)
    · rintro σ' H' ⟨x, rfl, e4⟩
      exact s_ret (ev_var rfl) fun H5 e5 => k p H5 hp ((e13.trans e4).trans e5) ((((e2.trans e3).trans e4).trans e5) _ _ h1)


/-- the two robots of a plan that is right, as they stand -/
theorem robs_at {K : PySem.W.Frag} {H : Hp} {p : PlanM} {bx : List Nat} {a b : Nat} {r0 r1 : RobM} {rs : List V} (hV : ValidP p bx a b r0 r1) (h : All (RobAt K H) rs p.robots) :
    ∃ a0 d0 s0 q0 w0 a1 d1 s1 q1 w1 t0 t1, rs = [.ref a0, .ref a1] ∧ H a0 = some (.ins (He.ga K "RobotTokens") d0 [("start", .ref t0), ("steps", .ref q0)]) ∧ H t0 = some (.ins (He.ga K "Token") s0 (tkF r0.start)) ∧ H q0 = some (.lst w0) ∧ All (StepAt K H) w0 r0.steps ∧
      H a1 = some (.ins (He.ga K "RobotTokens") d1 [("start", .ref t1), ("steps", .ref q1)]) ∧ H t1 = some (.ins (He.ga K "Token") s1 (tkF r1.start)) ∧ H q1 = some (.lst w1) ∧ All (StepAt K H) w1 r1.steps := by
  rw [hV.rob] at h
  cases h with
  | cons h1 h =>
    cases h with
    | cons h2 h =>
      cases h
      obtain ⟨a0, d0, sv0, q0, w0, rfl, x1, ⟨t0, s0, rfl, x2⟩, x3, x4⟩ := h1
      obtain ⟨a1, d1, sv1, q1, w1, rfl, y1, ⟨t1, s1, rfl, y2⟩, y3, y4⟩ := h2
      exact ⟨a0, d0, s0, q0, w0, a1, d1, s1, q1, w1, t0, t1, rfl, x1, x2, x3, x4, y1, y2, y3, y4⟩
theorem numS_inj {a b : Nat} (ha : a < 100) (hb : b < 100) (h : numS a = numS b) : a = b := by
  have e := congrArg PySem.intText? h
  rw [numS_int ha, numS_int hb] at e
  exact Int.ofNat.inj (Option.some.inj e)

theorem ok_start_faults (T : Txt K mg) : FnR P w K mg base (L2.CX P w) 1 (He.ga K "start_faults") (spPlF K) := by
  obtain ⟨fd, F⟩ := T.F_start_faults
  have B : Binds K fd P_start_faults [] := F.bindsN fun _ _ _ _ _ _ us hl => match us, hl with | [_], _ => rfl
  refine fnR_of F B (F.ok sc_start_faults (fun vs H Q E h => ?_) (fun cdv A outer s H vs Q E hr h => ?_))
  · obtain ⟨v, p, bx, a, b, r0, r1, rfl, _⟩ := h
    rfl
  · have hu := hu_of hr
    obtain ⟨v, pl, bx, a, b, r0, r1, rfl, hs, hV, k⟩ := h
    refine ⟨_, (pss_cons (ps_set (i := 1) sc_start_faults.nd rfl (by first | exact Or.inl rfl | exact Or.inr rfl) (pe_lst pa_nil))
        (pss_cons (ps_asg (pe_lc (te := tFld K (tVar 5) "start") (own := [("robot", 5)]) rfl sc_start_faults.nd (pi_list (pe_fld (pv 0) rfl)) (blkOk_by (own := [("robot", 5)]) (N := N_start_faults) (sc := defScope s_start_faults) (by decide +kernel)) (fun _ _ _ _ _ => by exact pg_name (i := 5) sc_start_faults.nd rfl (by first | exact Or.inl rfl | exact Or.inr rfl)) (fun _ _ _ _ _ => by exact pts_nil) (fun _ _ _ _ _ => by exact (pe_fld (pv 5) rfl))) (pg_unl rfl (pgs_cons (pg_name (i := 2) sc_start_faults.nd rfl (by first | exact Or.inl rfl | exact Or.inr rfl)) (pgs_cons (pg_name (i := 3) sc_start_faults.nd rfl (by first | exact Or.inl rfl | exact Or.inr rfl)) pgs_nil))))
        (pss_cons (ps_for (passes_of rfl) rfl (pi_tup (pe_tup (pa_cons (pv 2) (pa_cons (pv 3) pa_nil)))) (pg_name (i := 4) sc_start_faults.nd rfl (by first | exact Or.inl rfl | exact Or.inr rfl)) (pss_one (ps_if (pt_cmpR op_ge (pe_callTy call_int_str (by rfl) T.b_int (by decide +kernel) (pa_cons (pe_fld (pv 4) rfl) pa_nil)) (pe_callB call_len_seq (by rfl) T.b_len (by decide +kernel) (pa_cons (pe_fld (pv 0) rfl) pa_nil)) (nomark _)) (pss_one ps_never) pss_nil)))
        (pss_cons (ps_if (pt_cmpR op_eq (pe_fld (pv 2) rfl) (pe_fld (pv 3) rfl) (nomark _)) (pss_one ps_never) pss_nil)
        (pss_one (ps_ret (pv 1))))))), ?_⟩
    obtain ⟨pa, pdx, kv, na, ns, ra, rs, rfl, h0, hk, hn, hN, hr, hR⟩ := hs
    obtain ⟨a0, d0, s0, q0, w0, a1, d1, s1, q1, w1, t0, t1, rfl, x1, x2, x3, x4, y1, y2, y3, y4⟩ := robs_at hV hR
    have hlen := hN.len
    have hnl := pt_nums hV
    have hhi := hV.hi
    have hla := hV.la
    have hlb := hV.lb
    refine q_asgL (el_lst ea_nil (by decide)) fun p H1 hp e1 h1 => ?_
    refine q_unl2 (x := .ref t0) (y := .ref t1) (el_lcL (xs := [.ref a0, .ref a1]) (fun _ => true) (fun i => if i = 0 then V.ref t0 else V.ref t1) (ev_fld (ev_var rfl) (e1 _ _ h0) T.c_PlanTokens T.n_PlanTokens_robots rfl) (sq_of (e1 _ _ hr)) (by show 2 ≤ 40000; decide) (fun _ => rfl) (fun _ _ _ _ _ => et_yes) fun i x H2 e2 hx _ => ?_) rfl fun H2 e2 => ?_
    · match i, hx with
      | 0, hx =>
        obtain rfl : V.ref a0 = x := Option.some.inj hx
        exact ev_fld (ev_var rfl) ((e1.trans e2) _ _ x1) T.c_RobotTokens T.n_RobotTokens_start rfl
      | 1, hx =>
        obtain rfl : V.ref a1 = x := Option.some.inj hx
        exact ev_fld (ev_var rfl) ((e1.trans e2) _ _ y1) T.c_RobotTokens T.n_RobotTokens_start rfl
      | i + 2, hx => simp at hx
    have e12 := e1.trans e2
    have one : ∀ (t s : Addr) (st : Tk) (n : Nat) (σ' : L2.St) (D : L2.Ends) (H' : Hp), Ex H2 H' → n < bx.length → st.text = numS n → H t = some (.ins (He.ga K "Token") s (tkF st)) → σ'[0]? = some (some (.ref pa)) → σ'[4]? = some (some (.ref t)) → (∀ H4, Ex H' H4 → D.nx σ' H4) →
        tIfS (tTest (tOp (rI0 fun i j => V.bl (decide (j ≤ i))) (tCB (fun xs H Q => ∃ a n, xs = [V.str a] ∧ PySem.intText? a = some n ∧ a.length ≤ 640 ∧ Q (V.int n) H) (tCons (tFld K (tVar 4) "text") tNil)) (tCB (rLenS K) (tCons (tFld K (tVar 0) "numbers") tNil)))) (fun _ _ _ => False) tNext D σ' H' := by
      intro t s st n σ' D H' e3 hn' htx ht hv0 hv4 kk
      have e03 := e12.trans e3
      refine s_when (b := false) (et_test (ev_is (ev_op (ev_intS (n := n) (ev_fld (ev_var hv4) (e03 _ _ ht) T.c_Token T.n_Token_text rfl) (by rw [htx]; exact numS_int (by omega)) (by rw [htx]; have := numS_len (n := n) (by omega); omega)) (ev_len (xs := ns) (ev_fld (ev_var hv0) (e03 _ _ h0) T.c_PlanTokens T.n_PlanTokens_numbers rfl) (sq_of (e03 _ _ hn))) rv_I0) (congrArg V.bl (decide_eq_false (by omega))))) (fun hb => absurd hb (by decide)) (fun _ H4 e4 => kk H4 e4)
    refine q_forNU (xs := [.ref t0, .ref t1]) (eu_tup (ea_cons (ev_var rfl) (ea_cons (ev_var rfl) ea_nil)) (by show 2 ≤ 100000; decide)) (fun q i σ' H' => ∃ (x : Option V), σ' = [some (.ref pa), some (.ref p), some (.ref t0), some (.ref t1), x, none] ∧ Ex H2 H' ∧ H' q = some (.tup [.ref t0, .ref t1])) (fun q H3 hq e3 h3 => ⟨none, rfl, e3, h3⟩) (fun q i σ' H' _ ⟨_, _, _, h⟩ => st_of h) ?_ ?_
    · rintro q i v σ' H' hv ⟨x, rfl, e3, h3⟩
      match i, hv with
      | 0, hv =>
        obtain rfl : V.ref t0 = v := Option.some.inj hv
        exact one t0 s0 r0.start a _ _ H' e3 hla hV.sa x2 rfl rfl fun H4 e4 => ⟨_, rfl, e3.trans e4, e4 _ _ h3⟩
      | 1, hv =>
        obtain rfl : V.ref t1 = v := Option.some.inj hv
        exact one t1 s1 r1.start b _ _ H' e3 hlb hV.sb y2 rfl rfl fun H4 e4 => ⟨_, rfl, e3.trans e4, e4 _ _ h3⟩
      | i + 2, hv => simp at hv
    · rintro q σ' H' ⟨x, rfl, e3, h3⟩
      have e03 := e12.trans e3
      refine q_when (b := false) (et_test (ev_is (ev_op (ev_fld (ev_var rfl) (e03 _ _ x2) T.c_Token T.n_Token_text rfl) (ev_fld (ev_var rfl) (e03 _ _ y2) T.c_Token T.n_Token_text rfl) (rv_eq rfl)) ?_)) (fun hb => absurd hb (by decide)) (fun _ H5 e5 => ?_)
      · rw [str_eq]
        refine congrArg V.bl (decide_eq_false fun he => hV.ab ?_)
        rw [hV.sa, hV.sb] at he
        exact numS_inj (by omega) (by omega) he
      · exact s_ret (ev_var rfl) fun H6 e6 => k p H6 hp ((e03.trans e5).trans e6) ((((e2.trans e3).trans e5).trans e6) _ _ h1)

theorem ok_check_plan (T : Txt K mg) : FnR P w K mg base (L2.CX P w) 3 (He.ga K "check_plan") (spCk K) := by
  have G_shelf_faults := ok_shelf_faults (P := P) (w := w) (base := base) T
  have KP_shelf_faults : PySem.W.keepIn K (.ref (He.ga K "shelf_faults")) = true := by
    obtain ⟨_, F⟩ := T.F_shelf_faults
    exact F.kp
  have G_start_faults := ok_start_faults (P := P) (w := w) (base := base) T
  have KP_start_faults : PySem.W.keepIn K (.ref (He.ga K "start_faults")) = true := by
    obtain ⟨_, F⟩ := T.F_start_faults
    exact F.kp
  have G_step_faults := ok_step_faults (P := P) (w := w) (base := base) T
  have KP_step_faults : PySem.W.keepIn K (.ref (He.ga K "step_faults")) = true := by
    obtain ⟨_, F⟩ := T.F_step_faults
    exact F.kp
  obtain ⟨fd, F⟩ := T.F_check_plan
  have B : Binds K fd P_check_plan [] := F.bindsN fun _ _ _ _ _ _ us hl => match us, hl with | [_], _ => rfl
  refine fnR_of F B (F.ok sc_check_plan (fun vs H Q E h => ?_) (fun cdv A outer s H vs Q E hr h => ?_))
  · obtain ⟨v, p, bx, a, b, r0, r1, rfl, _⟩ := h
    rfl
  · have hu := hu_of hr
    obtain ⟨v, pl, bx, a, b, r0, r1, rfl, hs, hV, k⟩ := h
    refine ⟨_, (pss_cons (ps_set (i := 1) sc_check_plan.nd rfl (by first | exact Or.inl rfl | exact Or.inr rfl) (pe_op op_cat (pe_callR G_shelf_faults (hr.mono (by decide)) T.g_shelf_faults KP_shelf_faults px (pa_cons (pv 0) pa_nil)) (pe_callR G_start_faults (hr.mono (by decide)) T.g_start_faults KP_start_faults px (pa_cons (pv 0) pa_nil))))
        (pss_cons (ps_for (passes_of rfl) rfl (pi_list (pe_fld (pv 0) rfl)) (pg_name (i := 2) sc_check_plan.nd rfl (by first | exact Or.inl rfl | exact Or.inr rfl)) (pss_one (ps_expr (pe_bm PySem.F.plainAttrs_list PySem.F.slot_list_extend PySem.F.type_list_extend mt_extend (pv 1) (pa_cons (pe_callR G_step_faults (hr.mono (by decide)) T.g_step_faults KP_step_faults px (pa_cons (pe_fld (pv 2) rfl) pa_nil)) pa_nil)))))
        (pss_one (ps_if (pt_truth (pv 1) (by intro _; rfl)) (pss_cons ps_never
        (pss_one ps_never)) pss_nil)))), ?_⟩
    have hs0 := hs
    obtain ⟨pa, pdx, kv, na, ns, ra, rs, rfl, h0, hk, hn, hN, hr0, hR⟩ := hs
    obtain ⟨a0, d0, s0, q0, w0, a1, d1, s1, q1, w1, t0, t1, rfl, x1, x2, x3, x4, y1, y2, y3, y4⟩ := robs_at hV hR
    refine q_setH ⟨_, rfl, _, pl, bx, a, b, r0, r1, rfl, hs0, hV, fun l H1 hl e1 h1 => ?_⟩
    refine ⟨_, rfl, _, pl, bx, a, b, r0, r1, rfl, hs0.ex e1, hV, fun l2 H2 hl2 e2 h2 => ?_⟩
    refine ⟨l, l2, [], [], rfl, rfl, e2 _ _ h1, h2, by decide, fun q hq => ?_⟩
    have e02 := e1.trans e2
    have nq : H q = none := fresh_back e02 hq
    have e3 : Ex H (upd H2 q (.lst [])) := e02.trans (Ex.new hq)
    refine q_forLn (xs := [.ref a0, .ref a1]) (ev_fld (ev_var rfl) (e3 _ _ h0) T.c_PlanTokens T.n_PlanTokens_robots rfl) (sq_of (e3 _ _ hr0)) (fun i σ' H' => ∃ (x : Option V), σ' = [some (.ref pa), some (.ref q), x, none, none, none] ∧ Ex H H' ∧ H' q = some (.lst []))
      (fun H4 e4 => ⟨none, rfl, e3.trans e4, e4 _ _ upd_same⟩) (fun i σ' H' _ ⟨_, _, e, _⟩ => sq_of (e _ _ hr0)) ?_ ?_
    · rintro i v σ' H' hv ⟨x, rfl, e4, h4⟩
      obtain ⟨ar, dr, qr, sv, w, ss, rfl, z1, z2, z3, z4⟩ : ∃ (ar dr qr : Addr) (sv : V) (w : List V) (ss : List StepM), v = .ref ar ∧ H ar = some (.ins (He.ga K "RobotTokens") dr [("start", sv), ("steps", .ref qr)]) ∧ H qr = some (.lst w) ∧ All (StepAt K H) w ss ∧ ValidS ss := by
        match i, hv with
        | 0, hv => exact ⟨a0, d0, q0, .ref t0, w0, r0.steps, (Option.some.inj hv).symm, x1, x3, x4, hV.v0⟩
        | 1, hv => exact ⟨a1, d1, q1, .ref t1, w1, r1.steps, (Option.some.inj hv).symm, y1, y3, y4, hV.v1⟩
        | i + 2, hv => simp at hv
      refine s_extP (P := fun v H' => ∃ b, v = .ref b ∧ H' b = some (.lst [])) h4 (ev_var rfl) (ep_callR (ea_cons (ev_fld (ev_var rfl) (e4 _ _ z1) T.c_RobotTokens T.n_RobotTokens_steps rfl) ea_nil) fun H5 e5 Q5 q5 => ⟨_, ss, rfl, ⟨qr, w, rfl, (e4.trans e5) _ _ z2, z3.imp fun v x r => r.es (ES.of (e4.trans e5))⟩, z4, fun b H6 hb e6 h6 => q5 _ H6 e6 ⟨b, rfl, h6⟩⟩) fun v H6 e6 hv6 => ?_
      obtain ⟨b, rfl, hb⟩ := hv6
      exact ⟨b, [], rfl, hb, by decide, _, rfl, Ex.mut (e4.trans e6) nq, upd_same⟩
    · rintro σ' H' ⟨x, rfl, e4, h4⟩
      refine s_when (b := false) (et_tru (ev_var rfl) fun H5 e5 => Or.inl ⟨[], sq_of (e5 _ _ h4), rfl⟩) (fun hb => absurd hb (by decide)) (fun _ H5 e5 => ?_)
      exact k H5 (e4.trans e5)


def lkV : Option Nat → V
  | none => .non
  | some n => .int n
/-- a step that is linked: a pair of its word and the place to which it leads -/
def LkAt (H : Hp) (v : V) (s : Lk) : Prop := ∃ a, v = .ref a ∧ H a = some (.tup [.str s.1, lkV s.2])
theorem LkAt.ex {H H' : Hp} {v : V} {s : Lk} (e : Ex H H') (h : LkAt H v s) : LkAt H' v s := by
  obtain ⟨a, rfl, h⟩ := h
  exact ⟨a, rfl, e _ _ h⟩
theorem LkAt.put {H : Hp} {v : V} {s : Lk} {p : Addr} {xs ys : List V} (hp : H p = some (.lst xs)) (h : LkAt H v s) : LkAt (upd H p (.lst ys)) v s := by
  obtain ⟨a, rfl, h⟩ := h
  refine ⟨a, rfl, ?_⟩
  rw [upd_ne (ne_of h hp (by intro z; cases z))]
  exact h
def spLk (K : PySem.W.Frag) : Sp := fun vs H Q _ => ∃ v ss, vs = [v] ∧ StepsAt K H v ss ∧ ValidS ss ∧ ∀ p H' ws, H p = none → Ex H H' → H' p = some (.lst ws) → All (LkAt (nw H H')) ws (linked ss) → Q (.ref p) H'

theorem ok_linked_steps (T : Txt K mg) : FnR P w K mg base (L2.CX P w) 2 (He.ga K "linked_steps") (spLk K) := by
  have G_first_labels := ok_first_labels (P := P) (w := w) (base := base) T
  have KP_first_labels : PySem.W.keepIn K (.ref (He.ga K "first_labels")) = true := by
    obtain ⟨_, F⟩ := T.F_first_labels
    exact F.kp
  obtain ⟨fd, F⟩ := T.F_linked_steps
  have B : Binds K fd P_linked_steps [] := F.bindsN fun _ _ _ _ _ _ us hl => match us, hl with | [_], _ => rfl
  refine fnR_of F B (F.ok sc_linked_steps (fun vs H Q E h => ?_) (fun cdv A outer s H vs Q E hr h => ?_))
  · obtain ⟨v, ss, rfl, _⟩ := h
    rfl
  · have hu := hu_of hr
    obtain ⟨v, ss, rfl, hs, hV, k⟩ := h
    refine ⟨_, (pss_cons (ps_set (i := 1) sc_linked_steps.nd rfl (by first | exact Or.inl rfl | exact Or.inr rfl) (pe_callR G_first_labels (hr.mono (by decide)) T.g_first_labels KP_first_labels px (pa_cons (pv 0) pa_nil)))
        (pss_cons (ps_set (i := 2) sc_linked_steps.nd rfl (by first | exact Or.inl rfl | exact Or.inr rfl) (pe_lst pa_nil))
        (pss_cons (ps_for (passes_of rfl) rfl (pi_list (pv 0)) (pg_name (i := 3) sc_linked_steps.nd rfl (by first | exact Or.inl rfl | exact Or.inr rfl)) (pss_cons (ps_set (i := 4) sc_linked_steps.nd rfl (by first | exact Or.inl rfl | exact Or.inr rfl) (pe_ifExp (pt_cmpR op_isN (pe_fld (pv 3) rfl) pe_non (nomark _)) pe_non (pe_dget hu (pv 1) (pe_fld (pe_fld (pv 3) rfl) rfl) (fun _ _ => rfl))))
        (pss_one (ps_expr (pe_bm PySem.F.plainAttrs_list PySem.F.slot_list_append PySem.F.type_list_append mt_append (pv 2) (pa_cons (pe_tup (pa_cons (pe_fld (pe_fld (pv 3) rfl) rfl) (pa_cons (pv 4) pa_nil))) pa_nil))))))
        (pss_one (ps_ret (pv 2)))))), ?_⟩
    obtain ⟨a, ws, rfl, hl, hA⟩ := hs
    have hlen := hA.len
    have h20 := hV.len
    have bl : 100 < sizeLine := by decide
    refine q_setH ⟨_, rfl, .ref a, ss, rfl, ⟨a, ws, rfl, hl, hA⟩, by omega, fun d H1 hd e1 h1 => ?_⟩
    refine q_asgL (el_lst ea_nil (by decide)) fun p H2 hp2 e2 h2 => ?_
    have e02 := e1.trans e2
    have hp : H p = none := fresh_back e1 hp2
    refine q_forLn (xs := ws) (ev_var rfl) (sq_of (e02 _ _ hl)) (fun i σ' H' => ∃ (x y : Option V) (us : List V), σ' = [some (.ref a), some (.ref d), some (.ref p), x, y] ∧ Ex H H' ∧ H' d = some (.dK (firstLabs ss)) ∧ H' p = some (.lst us) ∧ All (LkAt (nw H H')) us ((linked ss).take i))
      (fun H3 e3 => ⟨none, none, [], rfl, e02.trans e3, (e2.trans e3) _ _ h1, e3 _ _ h2, .nil⟩) (fun i σ' H' _ ⟨_, _, _, _, e, _⟩ => sq_of (e _ _ hl)) ?_ ?_
    · rintro i v σ' H' hv ⟨x, y, us, rfl, e3, h3, h4, h5⟩
      obtain ⟨s, hs, sa, sdx, lv, cv, tv, rfl, z1, hlab, hc, ht⟩ := hA.getV hv
      have ht3 := ht.es (ES.of e3)
      have hc3 := hc.mono e3
      have hsi : (linked ss)[i]? = some (linkOf ss s) := by
        unfold linked
        rw [List.getElem?_map, hs]
        rfl
      have hik : i < ss.length := (List.getElem?_eq_some_iff.mp hs).1
      have hul := h5.len
      rw [List.length_take] at hul
      refine q_asg (v := lkV (linkOf ss s).2) (ev_if (b := s.target.isNone) (et_test (ev_is (ev_op (ev_fld (ev_var rfl) (e3 _ _ z1) T.c_StepTokens T.n_StepTokens_target rfl) ev_c rv_isN) (congrArg V.bl (opt_non ht3)))) (fun hb => ?_) (fun hb => ?_)) fun H4 e4 => ?_
      · have : s.target = none := by
          cases q : s.target with
          | none => rfl
          | some t => rw [q] at hb; cases hb
        refine ev_is ev_c ?_
        unfold linkOf
        rw [this]
        rfl
      · obtain ⟨t, et⟩ : ∃ t, s.target = some t := by
          cases q : s.target with
          | none => rw [q] at hb; cases hb
          | some t => exact ⟨t, rfl⟩
        rw [et] at ht3
        obtain ⟨ta, tdx, rfl, hta⟩ := ht3
        obtain ⟨n, hn⟩ := hV.tgt s t (List.mem_of_getElem? hs) et
        refine ev_dget (z := t.text) (ev_var rfl) (ev_fld (ev_fld (ev_var rfl) (e3 _ _ z1) T.c_StepTokens T.n_StepTokens_target rfl) hta T.c_Token T.n_Token_text rfl) h3 ?_
        rw [firstLabs_val, hn]
        unfold linkOf
        rw [et]
        show some (V.int n) = some (lkV (labIx ss t.text 0))
        rw [hn]
        rfl
      have e34 := e3.trans e4
      have hc4 := hc3.mono e4
      obtain ⟨ca, cdx, rfl, hca⟩ := hc4
      refine s_appU (ys := [.str s.command.text, lkV (linkOf ss s).2]) (e4 _ _ h4) (ev_var rfl) (eu_tup (ea_cons (ev_fld (ev_fld (ev_var rfl) (e34 _ _ z1) T.c_StepTokens T.n_StepTokens_command rfl) hca T.c_Token T.n_Token_text rfl) (ea_cons (ev_var rfl) ea_nil)) (by show 2 ≤ 100000; decide)) (by omega) fun t H5 ht5 e5 h5' => ?_
      have hp5 := (e4.trans e5) _ _ h4
      refine ⟨_, _, us ++ [.ref t], rfl, Ex.mut (e34.trans e5) hp, ?_, upd_same, ?_⟩
      · rw [upd_ne (ne_of ((e4.trans e5) _ _ h3) hp5 (by intro z; cases z))]
        exact (e4.trans e5) _ _ h3
      · rw [take_more hsi]
        rw [nw_upd hp]
        have hpn : nw H H5 p = some (.lst us) := nw_of hp hp5
        exact All.app (h5.imp fun v x r => (r.ex (nw_ex (e4.trans e5))).put hpn) (.cons (LkAt.put hpn ⟨t, rfl, nw_of (fresh_back e34 ht5) h5'⟩) .nil)
    · rintro σ' H' ⟨x, y, us, rfl, e3, h3, h4, h5⟩
      rw [List.take_of_length_le (by unfold linked; rw [List.length_map, hlen]; exact Nat.le_refl _)] at h5
      exact s_ret (ev_var rfl) fun H4 e4 => k p H4 us hp (e3.trans e4) (e4 _ _ h4) (h5.imp fun v x r => r.ex (nw_ex e4))

end SB

set_option maxHeartbeats 4000000
namespace SB
open PySem PySem.Spec PyProof.Rows L2
open TL (tl)
open Evl
variable {P : Program} {w : World} {K : PySem.W.Frag} {mg : Str → Option Value} {base : Heap}


structure PlIn (K : PySem.W.Frag) (H : Hp) (x dx bl ft st s0 s1 : Addr) (w0 w1 : List V) (P : Plm) : Prop where
  ob : H x = some (.ins (He.ga K "Plan") dx [("boxes", .ref bl), ("first_cells", .ref ft), ("steps", .ref st)])
  bxs : H bl = some (.lst (P.bx.map fun (n : Nat) => V.int n))
  fc : H ft = some (.tup [.int P.a, .int P.b])
  ss : H st = some (.tup [.ref s0, .ref s1])
  h0 : H s0 = some (.lst w0)
  h1 : H s1 = some (.lst w1)
  k0 : All (LkAt H) w0 P.l0
  k1 : All (LkAt H) w1 P.l1
theorem PlIn.ex {K : PySem.W.Frag} {H H' : Hp} {x dx bl ft st s0 s1 : Addr} {w0 w1 : List V} {P : Plm} (h : PlIn K H x dx bl ft st s0 s1 w0 w1 P) (e : Ex H H') : PlIn K H' x dx bl ft st s0 s1 w0 w1 P :=
  ⟨e _ _ h.ob, e _ _ h.bxs, e _ _ h.fc, e _ _ h.ss, e _ _ h.h0, e _ _ h.h1, h.k0.imp fun v x r => r.ex e, h.k1.imp fun v x r => r.ex e⟩
def PlOb (K : PySem.W.Frag) (H : Hp) (v : V) (P : Plm) : Prop := ∃ x dx bl ft st s0 s1 w0 w1, v = .ref x ∧ PlIn K H x dx bl ft st s0 s1 w0 w1 P
theorem PlOb.ex {K : PySem.W.Frag} {H H' : Hp} {v : V} {P : Plm} (e : Ex H H') (h : PlOb K H v P) : PlOb K H' v P := by
  obtain ⟨x, dx, bl, ft, st, s0, s1, w0, w1, rfl, h⟩ := h
  exact ⟨x, dx, bl, ft, st, s0, s1, w0, w1, rfl, h.ex e⟩
/-- the text z is that of the plan P, which follows all rules -/
def Reads (z : Str) (P : Plm) : Prop := z.length + 10 ≤ big ∧ ∃ p r0 r1, parse z = .ok p ∧ ValidP p P.bx P.a P.b r0 r1 ∧ P.l0 = linked r0.steps ∧ P.l1 = linked r1.steps
def spLP (K : PySem.W.Frag) : Sp := fun vs H Q _ => ∃ (v : V) (p : PlanM) (Pl : Plm) (r0 r1 : RobM), vs = [v] ∧ PlanAt K H v p ∧ ValidP p Pl.bx Pl.a Pl.b r0 r1 ∧ Pl.l0 = linked r0.steps ∧ Pl.l1 = linked r1.steps ∧ ∀ v H', Ex H H' → PlOb K (nw H H') v Pl → Q v H'
def spRead (K : PySem.W.Frag) : Sp := fun vs H Q _ => ∃ z P, vs = [.str z] ∧ Reads z P ∧ ∀ v H', Ex H H' → PlOb K (nw H H') v P → Q v H'
theorem given_all {n : Nat} {v : Nat → V} {xs : List V} (hl : xs.length = n) (h : ∀ (i : Nat) x, xs[i]? = some x → v i = x) : given n (fun _ => true) v = xs := by
  unfold given
  rw [List.filter_eq_self.mpr (fun _ _ => rfl)]
  apply List.ext_getElem?
  intro i
  rw [List.getElem?_map]
  by_cases hi : i < n
  · rw [List.getElem?_range hi]
    have hx : i < xs.length := by omega
    rw [List.getElem?_eq_getElem hx]
    exact congrArg some (h i _ (List.getElem?_eq_getElem hx))
  · rw [List.getElem?_eq_none (by rw [List.length_range]; omega), List.getElem?_eq_none (by omega)]
    rfl

theorem ok_linked_plan (T : Txt K mg) : FnR P w K mg base (L2.CX P w) 3 (He.ga K "linked_plan") (spLP K) := by
  have G_Plan_init := ok_Plan_init (P := P) (w := w) (base := base) T
  have G_linked_steps := ok_linked_steps (P := P) (w := w) (base := base) T
  have KP_linked_steps : PySem.W.keepIn K (.ref (He.ga K "linked_steps")) = true := by
    obtain ⟨_, F⟩ := T.F_linked_steps
    exact F.kp
  obtain ⟨fd, F⟩ := T.F_linked_plan
  have B : Binds K fd P_linked_plan [] := F.bindsN fun _ _ _ _ _ _ us hl => match us, hl with | [_], _ => rfl
  refine fnR_of F B (F.ok sc_linked_plan (fun vs H Q E h => ?_) (fun cdv A outer s H vs Q E hr h => ?_))
  · obtain ⟨v, p, Pl, r0, r1, rfl, _⟩ := h
    rfl
  · have hu := hu_of hr
    obtain ⟨v, p, Pl, r0, r1, rfl, hv, hV, hl0, hl1, k⟩ := h
    refine ⟨_, (pss_cons (ps_setLc (i := 1) (te := tCB (fun xs H Q => ∃ a n, xs = [V.str a] ∧ PySem.intText? a = some n ∧ a.length ≤ 640 ∧ Q (V.int n) H) (tCons (tFld K (tVar 4) "text") tNil)) (own := [("number", 4)]) rfl sc_linked_plan.nd rfl rfl (sw_true rfl rfl rfl (by decide +kernel)) (pi_list (pe_fld (pv 0) rfl)) (blkOk_by (own := [("number", 4)]) (N := N_linked_plan) (sc := defScope s_linked_plan) (by decide +kernel)) (fun _ _ _ _ _ => by exact pg_name (i := 4) sc_linked_plan.nd rfl (by first | exact Or.inl rfl | exact Or.inr rfl)) (fun _ _ _ _ _ => by exact pts_nil) (fun _ _ _ _ _ => by exact (pe_callTy call_int_str (by rfl) T.b_int (by decide +kernel) (pa_cons (pe_fld (pv 4) rfl) pa_nil))))
        (pss_cons (ps_set (i := 2) sc_linked_plan.nd rfl (by first | exact Or.inl rfl | exact Or.inr rfl) (pe_callTy call_tuple_of (by rfl) T.b_tuple (by decide +kernel) (pa_cons (pe_lc (te := tCB (fun xs H Q => ∃ a n, xs = [V.str a] ∧ PySem.intText? a = some n ∧ a.length ≤ 640 ∧ Q (V.int n) H) (tCons (tFld K (tFld K (tVar 5) "start") "text") tNil)) (own := [("robot", 5)]) rfl sc_linked_plan.nd (pi_list (pe_fld (pv 0) rfl)) (blkOk_by (own := [("robot", 5)]) (N := N_linked_plan) (sc := defScope s_linked_plan) (by decide +kernel)) (fun _ _ _ _ _ => by exact pg_name (i := 5) sc_linked_plan.nd rfl (by first | exact Or.inl rfl | exact Or.inr rfl)) (fun _ _ _ _ _ => by exact pts_nil) (fun _ _ _ _ _ => by exact (pe_callTy call_int_str (by rfl) T.b_int (by decide +kernel) (pa_cons (pe_fld (pe_fld (pv 5) rfl) rfl) pa_nil)))) pa_nil)))
        (pss_cons (ps_set (i := 3) sc_linked_plan.nd rfl (by first | exact Or.inl rfl | exact Or.inr rfl) (pe_callTy call_tuple_of (by rfl) T.b_tuple (by decide +kernel) (pa_cons (pe_lc (te := tCallR (spLk K) E0 (tCons (tFld K (tVar 5) "steps") tNil)) (own := [("robot", 5)]) rfl sc_linked_plan.nd (pi_list (pe_fld (pv 0) rfl)) (blkOk_by (own := [("robot", 5)]) (N := N_linked_plan) (sc := defScope s_linked_plan) (by decide +kernel)) (fun _ _ _ _ _ => by exact pg_name (i := 5) sc_linked_plan.nd rfl (by first | exact Or.inl rfl | exact Or.inr rfl)) (fun _ _ _ _ _ => by exact pts_nil) (fun _ _ _ _ _ => by exact (pe_callR G_linked_steps (hr.mono (by decide)) T.g_linked_steps KP_linked_steps passL (pa_cons (pe_fld (pv 5) rfl) pa_nil)))) pa_nil)))
        (pss_one (ps_ret (StX.pe_makeR T.k_Plan G_Plan_init (hr.mono (by decide)) (by rfl) T.g_Plan px (pa_cons (pv 1) (pa_cons (pv 2) (pa_cons (pv 3) pa_nil))))))))), ?_⟩
    have hhi := hV.hi
    have hla := hV.la
    have hlb := hV.lb
    obtain ⟨pa, pdx, kv, na, ns, ra, rs, rfl, h0, hk, hn, hN, hr0, hRR⟩ := hv
    obtain ⟨a0, d0, s0, q0, w0, a1, d1, s1, q1, w1, t0, t1, rfl, x1, x2, x3, x4, y1, y2, y3, y4⟩ := robs_at hV hRR
    have hlen := hN.len
    have hnl := pt_nums hV
    -- boxes
    refine q_asgL (el_lcL (xs := ns) (fun _ => true) (fun i => V.int ((Pl.bx.getD i 0 : Nat) : Int)) (ev_fld (ev_var rfl) h0 T.c_PlanTokens T.n_PlanTokens_numbers rfl) (sq_of hn) (by omega) (fun _ => rfl) (fun _ _ _ _ _ => et_yes) fun i x H3 e3 hx _ => ?_) fun bl H3 hbl e3 h3 => ?_
    · obtain ⟨t, ht, ta, tdx, rfl, hta⟩ := hN.getV hx
      obtain ⟨n, hbn, htx, hn3⟩ := num_at hV ht
      rw [List.getD_eq_getElem?_getD, hbn]
      exact ev_intS (a := t.text) (ev_fld (ev_var rfl) (e3 _ _ hta) T.c_Token T.n_Token_text rfl) (by rw [htx]; exact numS_int (by omega)) (by rw [htx]; have := numS_len (n := n) (by omega); omega)
    rw [given_all (xs := Pl.bx.map fun (n : Nat) => V.int n) (by rw [List.length_map]; omega) (fun i x hx => by
      rw [List.getElem?_map] at hx
      cases q : Pl.bx[i]? with
      | none => rw [q] at hx; cases hx
      | some n =>
        rw [q] at hx
        rw [List.getD_eq_getElem?_getD, q]
        exact Option.some.inj hx)] at h3
    -- first_cells
    refine q_asgU (eu_tupL (el_lcL (xs := [.ref a0, .ref a1]) (fun _ => true) (fun i => if i = 0 then V.int Pl.a else V.int Pl.b) (ev_fld (ev_var rfl) (e3 _ _ h0) T.c_PlanTokens T.n_PlanTokens_robots rfl) (sq_of (e3 _ _ hr0)) (by show 2 ≤ 40000; decide) (fun _ => rfl) (fun _ _ _ _ _ => et_yes) fun i x H4 e4 hx _ => ?_)) fun ft H4 hft e4 h4 => ?_
    · have e34 := e3.trans e4
      match i, hx with
      | 0, hx =>
        obtain rfl : V.ref a0 = x := Option.some.inj hx
        exact ev_intS (a := r0.start.text) (ev_fld (ev_fld (ev_var rfl) (e34 _ _ x1) T.c_RobotTokens T.n_RobotTokens_start rfl) (e34 _ _ x2) T.c_Token T.n_Token_text rfl) (by rw [hV.sa]; exact numS_int (by omega)) (by rw [hV.sa]; have := numS_len (n := Pl.a) (by omega); omega)
      | 1, hx =>
        obtain rfl : V.ref a1 = x := Option.some.inj hx
        exact ev_intS (a := r1.start.text) (ev_fld (ev_fld (ev_var rfl) (e34 _ _ y1) T.c_RobotTokens T.n_RobotTokens_start rfl) (e34 _ _ y2) T.c_Token T.n_Token_text rfl) (by rw [hV.sb]; exact numS_int (by omega)) (by rw [hV.sb]; have := numS_len (n := Pl.b) (by omega); omega)
      | i + 2, hx => simp at hx
    have h4' : H4 ft = some (.tup [.int Pl.a, .int Pl.b]) := h4
    -- steps
    have e24 := e3.trans e4
    refine q_setH ⟨.ref pa, rfl, pa, _, pdx, _, _, rfl, e24 _ _ h0, T.c_PlanTokens, T.n_PlanTokens_robots, rfl, ra, rfl, ⟨_, sq_of (e24 _ _ hr0)⟩, fun Dl hD => ?_⟩
    have nD : ∀ {a o}, H4 a = some o → a ≠ Dl := fun h => ne_of_none h hD
    have hDH : H Dl = none := fresh_back e24 hD
    have hblH : H bl = none := hbl
    have hftH : H ft = none := fresh_back e3 hft
    refine lc_list (xs := [.ref a0, .ref a1]) (fun i H' => Ex H4 H' ∧ ∃ ys : List V, H' Dl = some (.lst ys) ∧ ((i = 0 ∧ ys = []) ∨ (i = 1 ∧ ∃ p0 u0, ys = [.ref p0] ∧ nw H H' p0 = some (.lst u0) ∧ p0 ≠ Dl ∧ All (LkAt (nw H H')) u0 Pl.l0) ∨
      (i = 2 ∧ ∃ p0 u0 p1 u1, ys = [.ref p0, .ref p1] ∧ nw H H' p0 = some (.lst u0) ∧ All (LkAt (nw H H')) u0 Pl.l0 ∧ nw H H' p1 = some (.lst u1) ∧ All (LkAt (nw H H')) u1 Pl.l1)))
      ⟨Ex.new hD, [], upd_same, .inl ⟨rfl, rfl⟩⟩ (fun i H' _ ⟨e, _⟩ => sq_of (e _ _ (e24 _ _ hr0))) ?_ ?_
    · rintro i v H' hv ⟨e5, ys, h5, cases5⟩
      have e25 := e24.trans e5
      match i, hv, cases5 with
      | 0, hv, cases5 =>
        obtain rfl : V.ref a0 = v := Option.some.inj hv
        obtain ⟨_, rfl⟩ : (0 : Nat) = 0 ∧ ys = [] := by
          rcases cases5 with h | ⟨h, _⟩ | ⟨h, _⟩
          · exact h
          · cases h
          · cases h
        refine ⟨rfl, ?_⟩
        refine ⟨.ref a0, rfl, a0, _, d0, _, _, rfl, e25 _ _ x1, T.c_RobotTokens, T.n_RobotTokens_steps, rfl, ?_⟩
        refine ⟨_, r0.steps, rfl, ⟨q0, w0, rfl, e25 _ _ x3, x4.imp fun v x r => r.es (ES.of e25)⟩, hV.v0, fun p0 H6 u0 n0 e6 h6 hA6 => ?_⟩
        have hDl6 := e6 _ _ h5
        refine ⟨[], hDl6, by decide, Ex.mut (e5.trans e6) hD, [.ref p0], upd_same, .inr (.inl ⟨rfl, p0, u0, rfl, ?_, ?_, ?_⟩)⟩
        · rw [nw_upd hDH, upd_ne (Ne.symm (ne_of_none h5 n0))]
          exact nw_of (fresh_back e25 n0) h6
        · exact Ne.symm (ne_of_none h5 n0)
        · rw [hl0]
          rw [nw_upd hDH]
          exact hA6.imp fun v x r => (r.ex (nw_later e25)).put (nw_of hDH hDl6)
      | 1, hv, cases5 =>
        obtain rfl : V.ref a1 = v := Option.some.inj hv
        obtain ⟨p0, u0, rfl, z1, z2, z3⟩ : ∃ p0 u0, ys = [.ref p0] ∧ nw H H' p0 = some (.lst u0) ∧ p0 ≠ Dl ∧ All (LkAt (nw H H')) u0 Pl.l0 := by
          rcases cases5 with ⟨h, _⟩ | ⟨_, h⟩ | ⟨h, _⟩
          · cases h
          · exact h
          · cases h
        refine ⟨rfl, ?_⟩
        refine ⟨.ref a1, rfl, a1, _, d1, _, _, rfl, e25 _ _ y1, T.c_RobotTokens, T.n_RobotTokens_steps, rfl, ?_⟩
        refine ⟨_, r1.steps, rfl, ⟨q1, w1, rfl, e25 _ _ y3, y4.imp fun v x r => r.es (ES.of e25)⟩, hV.v1, fun p1 H6 u1 n1 e6 h6 hA6 => ?_⟩
        have hDl6 := e6 _ _ h5
        refine ⟨[.ref p0], hDl6, by show 1 < sizeLine; decide, Ex.mut (e5.trans e6) hD, [.ref p0, .ref p1], upd_same, .inr (.inr ⟨rfl, p0, u0, p1, u1, rfl, ?_, ?_, ?_, ?_⟩)⟩
        · rw [nw_upd hDH, upd_ne z2]
          exact nw_ex e6 _ _ z1
        · rw [nw_upd hDH]
          exact z3.imp fun v x r => (r.ex (nw_ex e6)).put (nw_of hDH hDl6)
        · rw [nw_upd hDH, upd_ne (Ne.symm (ne_of_none h5 n1))]
          exact nw_of (fresh_back e25 n1) h6
        · rw [hl1]
          rw [nw_upd hDH]
          exact hA6.imp fun v x r => (r.ex (nw_later e25)).put (nw_of hDH hDl6)
      | i + 2, hv, _ => simp at hv
    · rintro H5 ⟨e5, ys, h5, cases5⟩
      obtain ⟨p0, u0, p1, u1, rfl, z1, z2, z3, z4⟩ : ∃ p0 u0 p1 u1, ys = [.ref p0, .ref p1] ∧ nw H H5 p0 = some (.lst u0) ∧ All (LkAt (nw H H5)) u0 Pl.l0 ∧ nw H H5 p1 = some (.lst u1) ∧ All (LkAt (nw H H5)) u1 Pl.l1 := by
        rcases cases5 with ⟨h, _⟩ | ⟨h, _⟩ | ⟨_, h⟩
        · cases h
        · cases h
        · exact h
      refine ⟨Dl, _, rfl, .inl ⟨sq_of h5, fun st hst => ?_⟩⟩
      have e6 : Ex H5 (upd H5 st (.tup [.ref p0, .ref p1])) := Ex.new hst
      have e46 := e5.trans e6
      have n26 := e24.trans e46
      refine s_retP (P := fun v H' => PlOb K (nw H H') v Pl) (ep_makeN (ea_cons (ev_var rfl) (ea_cons (ev_var rfl) (ea_cons (ev_var rfl) ea_nil))) rfl fun x dx H7 nx e7 h7 => ⟨x, dx, bl, ft, st, p0, p1, u0, u1, rfl, nw_of (fresh_back n26 nx) h7, nw_of hblH (((e4.trans e46).trans e7) _ _ h3), nw_of hftH ((e46.trans e7) _ _ h4'), nw_of (fresh_back (e24.trans e5) hst) (e7 _ _ upd_same), nw_ex (e6.trans e7) _ _ z1, nw_ex (e6.trans e7) _ _ z3, z2.imp fun v x r => r.ex (nw_ex (e6.trans e7)), z4.imp fun v x r => r.ex (nw_ex (e6.trans e7))⟩) fun v H8 e8 hv8 => ?_
      exact k v H8 ((e24.trans e46).trans e8) hv8

theorem ok_read_plan (T : Txt K mg) : FnR P w K mg base (L2.CX P w) 8 (He.ga K "read_plan") (spRead K) := by
  have G_parse_plan := ok_parse_plan (P := P) (w := w) (base := base) T
  have KP_parse_plan : PySem.W.keepIn K (.ref (He.ga K "parse_plan")) = true := by
    obtain ⟨_, F⟩ := T.F_parse_plan
    exact F.kp
  have G_check_plan := ok_check_plan (P := P) (w := w) (base := base) T
  have KP_check_plan : PySem.W.keepIn K (.ref (He.ga K "check_plan")) = true := by
    obtain ⟨_, F⟩ := T.F_check_plan
    exact F.kp
  have G_linked_plan := ok_linked_plan (P := P) (w := w) (base := base) T
  have KP_linked_plan : PySem.W.keepIn K (.ref (He.ga K "linked_plan")) = true := by
    obtain ⟨_, F⟩ := T.F_linked_plan
    exact F.kp
  obtain ⟨fd, F⟩ := T.F_read_plan
  have B : Binds K fd P_read_plan [] := F.bindsN fun _ _ _ _ _ _ us hl => match us, hl with | [_], _ => rfl
  refine fnR_of F B (F.ok sc_read_plan (fun vs H Q E h => ?_) (fun cdv A outer s H vs Q E hr h => ?_))
  · obtain ⟨z, Pl, rfl, _⟩ := h
    rfl
  · have hu := hu_of hr
    obtain ⟨z, Pl, rfl, hR, k⟩ := h
    refine ⟨_, (pss_cons (ps_set (i := 1) sc_read_plan.nd rfl (by first | exact Or.inl rfl | exact Or.inr rfl) (pe_callR G_parse_plan (hr.mono (by decide)) T.g_parse_plan KP_parse_plan px (pa_cons (pv 0) pa_nil)))
        (pss_cons (ps_expr (pe_callR G_check_plan (hr.mono (by decide)) T.g_check_plan KP_check_plan px (pa_cons (pv 1) pa_nil)))
        (pss_one (ps_ret (pe_callR G_linked_plan (hr.mono (by decide)) T.g_linked_plan KP_linked_plan px (pa_cons (pv 1) pa_nil)))))), ?_⟩
    obtain ⟨hz, p, r0, r1, hpz, hV, hl0, hl1⟩ := hR
    refine q_setH ⟨_, rfl, z, rfl, hz, fun p' hp' v H1 e1 hv => ?_, fun e he => by rw [hpz] at he; cases he⟩
    obtain rfl : p = p' := by
      rw [hpz] at hp'
      exact Except.ok.inj hp'
    refine q_dropH ⟨_, rfl, v, p, Pl.bx, Pl.a, Pl.b, r0, r1, rfl, hv, hV, fun H2 e2 => ?_⟩
    exact s_retH ⟨_, rfl, v, p, Pl, r0, r1, rfl, hv.ex e2, hV, hl0, hl1, fun v' H3 e3 hv' => k v' H3 ((e1.trans e2).trans e3) (hv'.ex (nw_later (e1.trans e2)))⟩

end SB

set_option maxHeartbeats 4000000
namespace SB
open PySem PySem.Spec PyProof.Rows L2
open TL (tl)
def labC (n : Nat) : List Nat := [115, 97 + n]
def stepC (tg : List (Option Nat)) (n : Nat) (s : Lk) : List Nat := [32, 32] ++ (if some n ∈ tg then labC n ++ [58, 32] else []) ++ tl s.1 ++ (match s.2 with
  | none => []
  | some t => 32 :: labC t) ++ [59]
def stepsFrom (tg : List (Option Nat)) : Nat → List Lk → List (List Nat)
  | _, [] => []
  | n, s :: r => stepC tg n s :: stepsFrom tg (n + 1) r
def stepLs (l : List Lk) : List (List Nat) := stepsFrom (l.map (·.2)) 0 l
def robC (a : Nat) (l : List Lk) : List (List Nat) := (tl ("robot " : Str) ++ TL.numL a ++ [32, 123]) :: (stepLs l ++ [[125]])
def planC (P : Plm) : List (List Nat) := (tl ("shelf " : Str) ++ TL.joinL [32] (P.bx.map TL.numL) ++ [59]) :: (robC P.a P.l0 ++ robC P.b P.l1)
def textC (P : Plm) : List Nat := TL.joinL [10] (planC P)
/-- the canonical text -/
def planText (P : Plm) : Str := mkS (textC P)
/-- steps that can be written -/
structure LkOk (l : List Lk) : Prop where
  len : l.length ≤ 20
  word : ∀ s ∈ l, s.1 ∈ commands
  tgt : ∀ s ∈ l, ∀ t, s.2 = some t → t < l.length
structure PlOk (P : Plm) : Prop where
  lo : 3 ≤ P.bx.length
  hi : P.bx.length ≤ 12
  most : ∀ n ∈ P.bx, n ≤ 3
  la : P.a < P.bx.length
  lb : P.b < P.bx.length
  ab : P.a ≠ P.b
  k0 : LkOk P.l0
  k1 : LkOk P.l1
theorem cmd_len {w : Str} (h : w ∈ commands) : w.length ≤ 5 := by
  have : ∀ w ∈ commands, w.length ≤ 5 := by decide +kernel
  exact this w h
theorem stepC_len {tg : List (Option Nat)} {n : Nat} {s : Lk} (h : s.1.length ≤ 5) : (stepC tg n s).length ≤ 20 := by
  unfold stepC
  have := len_tl s.1
  have e1 : (if some n ∈ tg then labC n ++ [58, 32] else []).length ≤ 4 := by
    split
    · exact Nat.le_refl 4
    · exact Nat.zero_le 4
  have e2 : (match s.2 with | none => [] | some t => 32 :: labC t).length ≤ 3 := by
    cases s.2 with
    | none => exact Nat.zero_le 3
    | some t => exact Nat.le_refl 3
  simp only [List.length_append, List.length_cons, List.length_nil]
  omega
theorem stepsFrom_len (tg : List (Option Nat)) : ∀ (l : List Lk) (n : Nat), (stepsFrom tg n l).length = l.length
  | [], _ => rfl
  | s :: r, n => by
    show (stepsFrom tg (n + 1) r).length + 1 = r.length + 1
    rw [stepsFrom_len tg r (n + 1)]
theorem stepsFrom_get (tg : List (Option Nat)) : ∀ (l : List Lk) (n i : Nat) (s : Lk), l[i]? = some s → (stepsFrom tg n l)[i]? = some (stepC tg (n + i) s)
  | [], _, i, _, h => by simp at h
  | a :: r, n, 0, s, h => by
    obtain rfl : a = s := Option.some.inj h
    rfl
  | a :: r, n, i + 1, s, h => by
    have := stepsFrom_get tg r (n + 1) i s h
    show (stepsFrom tg (n + 1) r)[i]? = _
    rw [this, show n + 1 + i = n + (i + 1) by omega]
theorem steps_small {tg : List (Option Nat)} : ∀ (l : List Lk) (n : Nat), (∀ s ∈ l, s.1.length ≤ 5) → ∀ x ∈ stepsFrom tg n l, x.length ≤ 20
  | [], _, _, x, h => by cases h
  | s :: r, n, hw, x, h => by
    rcases List.mem_cons.mp h with h | h
    · subst h
      exact stepC_len (hw s (List.mem_cons_self ..))
    · exact steps_small r (n + 1) (fun s hs => hw s (List.mem_cons_of_mem _ hs)) x h
end SB

set_option maxHeartbeats 4000000
namespace SB
open PySem PySem.Spec PyProof.Rows L2
open TL (tl)
open Evl
section
variable {K : PySem.W.Frag} {σ : L2.St} {H H' : Hp} {ta tb te : TE} {t u : TT} {x y z v : V} {E : XK} {D : L2.Ends} {tu tw tz : TS}
/-- the parts of a formatted text -/
inductive EvJ : List TE → L2.St → Hp → List Str → Prop where
  | nil {σ : L2.St} {H : Hp} : EvJ [] σ H []
  | cons {t : TE} {ts : List TE} {σ : L2.St} {H : Hp} {y : Str} {ys : List Str} (h : Ev t σ H (.str y)) (r : EvJ ts σ H ys) : EvJ (t :: ts) σ H (y :: ys)
def catS : Str → List Str → Str
  | acc, [] => acc
  | acc, y :: ys => catS (acc ++ y) ys
theorem catS_tl : ∀ (acc : Str) (ys : List Str), tl (catS acc ys) = tl acc ++ (ys.map tl).flatten
  | acc, [] => by simp [catS]
  | acc, y :: ys => by
    show tl (catS (acc ++ y) ys) = _
    rw [catS_tl (acc ++ y) ys, TL.tl_append]
    simp
theorem evj_run : ∀ {ts : List TE} {ys : List Str}, EvJ ts σ H ys → ∀ (acc : Str) (H1 : Hp), Ex H H1 → ∀ Q : Str → Hp → Prop, acc.length + (ys.map Str.length).sum ≤ sizeLine → (∀ H2, Ex H1 H2 → Q (catS acc ys) H2) → tJs ts acc σ H1 Q
  | _, _, .nil, acc, H1, e, Q, hl, q => q H1 (Ex.refl H1)
  | _, _, .cons (y := y) (ys := ys) h r, acc, H1, e, Q, hl, q => h H1 e _ fun H2 e2 => by
    simp only [List.map_cons, List.sum_cons] at hl
    refine ⟨y, rfl, by rw [app_len]; omega, evj_run r (acc ++ y) H2 (e.trans e2) Q (by rw [app_len]; omega) fun H3 e3 => q H3 (e2.trans e3)⟩
theorem ev_js {ts : List TE} {ys : List Str} (h : EvJ ts σ H ys) (hl : (ys.map Str.length).sum ≤ sizeLine) : Ev (fun σ H Q => tJs ts Str.empty σ H fun out H1 => Q (.str out) H1) σ H (.str (catS Str.empty ys)) := fun H1 e Q q =>
  evj_run h Str.empty H1 e _ (by show 0 + _ ≤ _; omega) q
theorem ev_fmtS {s : Str} (h : Ev te σ H (.str s)) (hl : s.length ≤ sizeLine) : Ev (tFmt te) σ H (.str s) := fun H1 e Q q => h H1 e _ fun H2 e2 => .inl ⟨s, rfl, hl, q H2 e2⟩
theorem ev_strI {n : Nat} (h : Ev te σ H (.int n)) (hn : n ≤ 1000000) : Ev (tCB (fun xs H Q => ∃ i, xs = [V.int i] ∧ i.natAbs.log2 < 1920 ∧ Q (V.str (toString i)) H) (tCons te tNil)) σ H (.str (numS n)) := fun H1 e Q q =>
  h H1 e _ fun H2 e2 => ⟨n, rfl, log_ok ⟨by omega, by omega⟩, q H2 e2⟩
theorem rv_addS {a b : Str} (h : a.length + b.length ≤ sizeLine) : RV (fun x y H Q => ∃ i j, x = V.str i ∧ y = V.str j ∧ i.length + j.length ≤ sizeLine ∧ Q (V.str (i ++ j)) H) (.str a) (.str b) H (.str (a ++ b)) := fun H1 _ _ q => ⟨a, b, rfl, rfl, h, q H1 (Ex.refl H1)⟩
/-- sep.join(list of texts) -/
theorem ev_joinL {a : Str} {ys : List Str} {p : Addr} (h : Ev ta σ H (.str a)) (h2 : Ev tb σ H (.ref p)) (hp : H p = some (.lst (ys.map V.str))) (hl : (ys.map (·.length)).sum + ys.length * a.length ≤ 16777216) :
    Ev (tM1 (fun x xs H Q => ∃ a p, ∃ ys : List Str, x = V.str a ∧ xs = [V.ref p] ∧ (SqL K H p (ys.map V.str) ∨ SqT K H p (ys.map V.str)) ∧ (ys.map (·.length)).sum + ys.length * a.length ≤ 16777216 ∧ Q (V.str (Txt.join a ys)) H) ta tb) σ H (.str (Txt.join a ys)) := fun H1 e Q q =>
  h H1 e _ fun H2 e2 => ⟨⟨a, rfl⟩, h2 H2 (e.trans e2) _ fun H3 e3 => ⟨a, p, ys, rfl, rfl, .inl (sq_of (((e.trans e2).trans e3) _ _ hp)), hl, q H3 (e2.trans e3)⟩⟩
theorem ev_joinN {a : Str} {ys : List Str} (h : Ev ta σ H (.str a)) (h2 : EvL tb σ H (ys.map V.str)) (hl : (ys.map (·.length)).sum + ys.length * a.length ≤ 16777216) :
    Ev (tM1 (fun x xs H Q => ∃ a p, ∃ ys : List Str, x = V.str a ∧ xs = [V.ref p] ∧ (SqL K H p (ys.map V.str) ∨ SqT K H p (ys.map V.str)) ∧ (ys.map (·.length)).sum + ys.length * a.length ≤ 16777216 ∧ Q (V.str (Txt.join a ys)) H) ta tb) σ H (.str (Txt.join a ys)) := fun H1 e Q q =>
  h H1 e _ fun H2 e2 => ⟨⟨a, rfl⟩, h2 H2 (e.trans e2) _ fun p H3 _ e3 hp => ⟨a, p, ys, rfl, rfl, .inl (sq_of hp), hl, q H3 (e2.trans e3)⟩⟩
/-- a comprehension over a list of pairs, the target (a, b) -/
theorem el_lcP {a : Addr} {xs : List V} {tl_ : TE} {j1 j2 n : Nat} {vs : List Nat} (f : Nat → Bool) (w : Nat → V) (h : Ev tl_ σ H (.ref a)) (hx : SqL K H a xs) (hz : xs.length ≤ 40000) (hn : 2 = n) (hw : ∀ x y, wipe (((wipe σ vs).set j1 (some x)).set j2 (some y)) vs = wipe σ vs)
    (hp : ∀ (i : Nat) (x : V), xs[i]? = some x → ∃ b u v, x = .ref b ∧ SqT K H b [u, v] ∧ (∀ H1, Ex H H1 → EvT t (((wipe σ vs).set j1 (some u)).set j2 (some v)) H1 (f i)) ∧ ∀ H1, Ex H H1 → f i = true → Ev te (((wipe σ vs).set j1 (some u)).set j2 (some v)) H1 (w i)) :
    EvL (tLc (iList K tl_) (gTup K n (gCons (gName j1) (gCons (gName j2) gNil))) t te vs) σ H (given xs.length f w) := fun H0 e Q q => h H0 e _ fun H1 e1 => ⟨a, rfl, ⟨xs, ex_l (e.trans e1) hx⟩, fun Dl hD =>
  lc_list (xs := xs) (Cw H1 f w Dl) ⟨hD, Ex.new hD, upd_same⟩ (fun i H' _ p => ex_l ((e.trans e1).trans p.2.1) hx) (fun i x H' hi p => by
    obtain ⟨b, u, v, rfl, hb, ht, he⟩ := hp i x hi
    exact ⟨b, [u, v], rfl, ex_t ((e.trans e1).trans p.2.1) hb, hn, _, _, rfl, _, _, rfl, rfl, hw u v, cw_turn p (by have := (List.getElem?_eq_some_iff.mp hi).1; omega) (ht H1 (e.trans e1)) (fun hf => he H1 (e.trans e1) hf)⟩)
    (fun H' p => q Dl H' (fresh_back e1 p.1) (e1.trans p.2.1) p.2.2)⟩
/-- for i, (a, b) in enumerate(xs) -/
theorem s_forEnumP {ta : TA} {a : Addr} {xs : List V} {j1 j2 j3 n m : Nat} (h : EvA ta σ H [.ref a]) (hx : SqL K H a xs) (hn : 2 = n) (hm : 2 = m) (Pv : Nat → L2.St → Hp → Prop) (h0 : ∀ H1, Ex H H1 → Pv 0 σ H1) (hl : ∀ i σ' H', i ≤ xs.length → Pv i σ' H' → SqL K H' a xs)
    (hp : ∀ (i : Nat) x σ' H', xs[i]? = some x → Pv i σ' H' → ∃ b u v, x = .ref b ∧ SqT K H' b [u, v] ∧ ∀ H2, Ex H' H2 → tu { D with nx := Pv (i + 1), ct := Pv (i + 1), bk := D.nx } (((σ'.set j1 (some (.int (i : Int)))).set j2 (some u)).set j3 (some v)) H2) (hd : ∀ σ' H', Pv xs.length σ' H' → D.nx σ' H') :
    tFor (iEnum K ta) (gTup K n (gCons (gName j1) (gCons (gTup K m (gCons (gName j2) (gCons (gName j3) gNil))) gNil))) tu D σ H :=
  h H (Ex.refl H) _ fun H1 e => ⟨a, xs, rfl, ex_l e hx, for_it walk_enum Pv (h0 H1 e) hl (fun i v σ' H' H2 hi p y => by
    obtain ⟨T, x, y, rfl, hT, rfl, ex, ey⟩ := y
    obtain rfl : V.int (i : Int) = x := Option.some.inj ex
    obtain ⟨b, u, v, rfl, hb, kk⟩ := hp i y σ' H' ey p
    exact ⟨T, [.int (i : Int), .ref b], rfl, st_of upd_same, hn, _, _, rfl, _, _, rfl, ⟨b, [u, v], rfl, ex_t (Ex.new hT) hb, hm, _, _, rfl, _, _, rfl, rfl, rfl, kk _ (Ex.new hT)⟩⟩) hd⟩
theorem q_forEnumP {ta : TA} {a : Addr} {xs : List V} {j1 j2 j3 n m : Nat} (h : EvA ta σ H [.ref a]) (hx : SqL K H a xs) (hn : 2 = n) (hm : 2 = m) (Pv : Nat → L2.St → Hp → Prop) (h0 : ∀ H1, Ex H H1 → Pv 0 σ H1) (hl : ∀ i σ' H', i ≤ xs.length → Pv i σ' H' → SqL K H' a xs)
    (hp : ∀ (i : Nat) x σ' H', xs[i]? = some x → Pv i σ' H' → ∃ b u v, x = .ref b ∧ SqT K H' b [u, v] ∧ ∀ H2, Ex H' H2 → tu { D with nx := Pv (i + 1), ct := Pv (i + 1), bk := tz D } (((σ'.set j1 (some (.int (i : Int)))).set j2 (some u)).set j3 (some v)) H2) (hd : ∀ σ' H', Pv xs.length σ' H' → tz D σ' H') :
    tSeq (tFor (iEnum K ta) (gTup K n (gCons (gName j1) (gCons (gTup K m (gCons (gName j2) (gCons (gName j3) gNil))) gNil))) tu) tz D σ H := s_forEnumP (D := { D with nx := tz D }) h hx hn hm Pv h0 hl hp hd
/-- for a, b in zip(t, u), two tuples -/
theorem q_forZipT {ta : TA} {a b : Addr} {xs ys : List V} {j1 j2 n : Nat} (h : EvA ta σ H [.ref a, .ref b]) (hx : SqT K H a xs) (hy : SqT K H b ys) (hl : xs.length = ys.length) (hn : 2 = n) (Pv : Nat → L2.St → Hp → Prop) (h0 : ∀ H1, Ex H H1 → Pv 0 σ H1) (hq : ∀ i σ' H', Pv i σ' H' → SqT K H' a xs ∧ SqT K H' b ys)
    (hs : ∀ (i : Nat) x y σ' H' H2, xs[i]? = some x → ys[i]? = some y → Pv i σ' H' → Ex H' H2 → tu { D with nx := Pv (i + 1), ct := Pv (i + 1), bk := tz D } ((σ'.set j1 (some x)).set j2 (some y)) H2) (hd : ∀ σ' H', Pv xs.length σ' H' → tz D σ' H') :
    tSeq (tFor (RZ.iZipA K ta) (gTup K n (gCons (gName j1) (gCons (gName j2) gNil))) tu) tz D σ H :=
  h H (Ex.refl H) _ fun H1 e => ⟨a, b, xs, ys, rfl, .inr ⟨ex_t e hx, ex_t e hy, RZ.for_zipT (D := { D with nx := tz D }) hl Pv (h0 H1 e) hq (fun i x y T σ' H' ex ey p hT => ⟨T, [x, y], rfl, st_of upd_same, hn, _, _, rfl, _, _, rfl, rfl, hs i x y σ' H' _ ex ey p (Ex.new hT)⟩) hd⟩⟩
end
theorem tl_inj {a b : Str} (h : tl a = tl b) : a = b := by rw [← mkS_tl a, ← mkS_tl b, h]
end SB

set_option maxHeartbeats 4000000
namespace SB
open PySem PySem.Spec PyProof.Rows L2
open TL (tl)
open Evl
variable {P : Program} {w : World} {K : PySem.W.Frag} {mg : Str → Option Value} {base : Heap}

theorem blank2 : tl ("  " : Str) = [32, 32] := by decide +kernel
theorem blank1 : tl (" " : Str) = [32] := by decide +kernel
theorem semi1 : tl (";" : Str) = [59] := by decide +kernel
theorem colon2 : tl (": " : Str) = [58, 32] := by decide +kernel
theorem let_s : tl ("s" : Str) = [115] := by decide +kernel
theorem empty0 : ("" : Str) = mkS [] := by decide +kernel
theorem tl_empty : tl Str.empty = [] := rfl
theorem letter_at {n : Nat} (h : n < 20) : (tl ("abcdefghijklmnopqrst" : Str))[n]? = some (97 + n) := by
  have : ∀ n < 20, (tl ("abcdefghijklmnopqrst" : Str))[n]? = some (97 + n) := by decide +kernel
  exact this n h
theorem len_s1 {a : Str} (h : a.length = 1) : ((["s", a] : List Str).map Str.length).sum ≤ sizeLine := by
  have k1 : (("s" : Str)).length ≤ 2 := by decide +kernel
  have bl : 1000 < sizeLine := by decide
  simp only [List.map_cons, List.map_nil, List.sum_cons, List.sum_nil]
  omega
theorem len_2c {a : Str} (h : a.length = 2) : (([a, ": "] : List Str).map Str.length).sum ≤ sizeLine := by
  have k1 : ((": " : Str)).length ≤ 2 := by decide +kernel
  have bl : 1000 < sizeLine := by decide
  simp only [List.map_cons, List.map_nil, List.sum_cons, List.sum_nil]
  omega
theorem len_c2 {a : Str} (h : a.length = 2) : (([" ", a] : List Str).map Str.length).sum ≤ sizeLine := by
  have k1 : ((" " : Str)).length ≤ 2 := by decide +kernel
  have bl : 1000 < sizeLine := by decide
  simp only [List.map_cons, List.map_nil, List.sum_cons, List.sum_nil]
  omega
theorem inV_lk (n : Nat) (os : List (Option Nat)) : inV (.int n) (os.map lkV) = decide (some n ∈ os) := by
  induction os with
  | nil => rfl
  | cons a r ih =>
    have e : inV (.int n) ((a :: r).map lkV) = (eqV (lkV a) (.int n) || inV (.int n) (r.map lkV)) := rfl
    have e2 : eqV (lkV a) (.int n) = decide (some n = a) := by
      cases a with
      | none => simp [lkV, eqV]
      | some m =>
        show ((m : Int) == (n : Int)) = _
        by_cases q : m = n
        · subst q; simp
        · rw [decide_eq_false (fun h => q (Option.some.inj h).symm)]
          simp
          omega
    rw [e, e2, ih, ← Bool.decide_or]
    apply decide_eq_decide.mpr
    rw [List.mem_cons]
theorem flat_lk : ∀ os : List (Option Nat), (os.map lkV).all flatV = true
  | [] => rfl
  | none :: r => flat_lk r
  | some _ :: r => flat_lk r
theorem robot_s : (tl ("robot " : Str)).length = 6 := by decide +kernel
theorem brace_s : tl (" {" : Str) = [32, 123] := by decide +kernel
theorem close_s : ("}" : Str) = mkS [125] := by decide +kernel
theorem shelf_s : (tl ("shelf " : Str)).length = 6 := by decide +kernel
theorem line_s : tl ("\n" : Str) = [10] := by decide +kernel
theorem el_eq {te : TE} {σ : L2.St} {H : Hp} {xs ys : List V} (h : EvL te σ H xs) (e : xs = ys) : EvL te σ H ys := e ▸ h
theorem sum_le {k : Nat} : ∀ ys : List Str, (∀ y ∈ ys, y.length ≤ k) → (ys.map (·.length)).sum ≤ ys.length * k
  | [], _ => Nat.zero_le _
  | y :: r, h => by
    have h1 := h y (List.mem_cons_self ..)
    have h2 := sum_le r fun z hz => h z (List.mem_cons_of_mem _ hz)
    simp only [List.map_cons, List.sum_cons, List.length_cons, Nat.add_mul, Nat.one_mul]
    omega
theorem joinL_len {S : List Nat} {k : Nat} : ∀ ps : List (List Nat), (∀ p ∈ ps, p.length ≤ k) → (TL.joinL S ps).length ≤ ps.length * (k + S.length)
  | [], _ => Nat.zero_le _
  | [p], h => by
    have h1 := h p (List.mem_cons_self ..)
    show p.length ≤ (0 + 1) * _
    rw [Nat.zero_add, Nat.one_mul]
    omega
  | p :: q :: r, h => by
    have h1 := h p (List.mem_cons_self ..)
    have h2 := joinL_len (S := S) (q :: r) fun z hz => h z (List.mem_cons_of_mem _ hz)
    have e : TL.joinL S (p :: q :: r) = p ++ (S ++ TL.joinL S (q :: r)) := by simp [TL.joinL]
    rw [e]
    simp only [List.length_append, List.length_cons] at h2 ⊢
    have : (r.length + 1 + 1) * (k + S.length) = (r.length + 1) * (k + S.length) + (k + S.length) := by rw [Nat.add_mul (r.length + 1), Nat.one_mul]
    omega
def hdC (P : Plm) : List Nat := tl ("shelf " : Str) ++ TL.joinL [32] (P.bx.map TL.numL) ++ [59]
/-- the lines after i robots -/
def lnsP (P : Plm) (i : Nat) : List (List Nat) := hdC P :: ((if 0 < i then robC P.a P.l0 else []) ++ (if 1 < i then robC P.b P.l1 else []))
theorem hdC_len {P : Plm} (h : PlOk P) : (hdC P).length ≤ 60 := by
  unfold hdC
  have := joinL_len (S := [32]) (k := 2) (P.bx.map TL.numL) fun p hp => by
    obtain ⟨n, hn, rfl⟩ := List.mem_map.mp hp
    have := h.most n hn
    exact TL.numL_len (by decide) (by omega)
  have e := shelf_s
  have e2 := h.hi
  simp only [List.length_append, List.length_cons, List.length_nil, List.length_map] at this ⊢
  omega
theorem robC_small {a : Nat} {l : List Lk} (ha : a < 12) (h : LkOk l) : ∀ x ∈ robC a l, x.length ≤ 60 := fun x hx => by
  rcases List.mem_cons.mp hx with hx | hx
  · subst hx
    have := TL.numL_len (n := a) (k := 2) (by decide) (by omega)
    have e := robot_s
    simp only [List.length_append, List.length_cons, List.length_nil]
    omega
  · rcases List.mem_append.mp hx with hx | hx
    · have := steps_small l 0 (fun s hs => cmd_len (h.word s hs)) x hx
      omega
    · rw [List.mem_singleton.mp hx]
      decide
theorem robC_len {a : Nat} {l : List Lk} : (robC a l).length = l.length + 2 := by
  unfold robC
  simp only [List.length_append, List.length_cons, List.length_nil]
  rw [show (stepLs l).length = l.length from stepsFrom_len _ _ _]
theorem planC_small {P : Plm} (h : PlOk P) : ∀ x ∈ planC P, x.length ≤ 60 := fun x hx => by
  have e := h.hi
  rcases List.mem_cons.mp hx with hx | hx
  · rw [hx]
    exact hdC_len h
  · rcases List.mem_append.mp hx with hx | hx
    · exact robC_small (Nat.lt_of_lt_of_le h.la e) h.k0 x hx
    · exact robC_small (Nat.lt_of_lt_of_le h.lb e) h.k1 x hx
theorem planC_len {P : Plm} (h : PlOk P) : (planC P).length ≤ 45 := by
  have e1 := h.k0.len
  have e2 := h.k1.len
  show (robC P.a P.l0 ++ robC P.b P.l1).length + 1 ≤ 45
  rw [List.length_append, robC_len, robC_len]
  omega
theorem planText_join (P : Plm) : Txt.join ("\n" : Str) ((planC P).map mkS) = planText P := by
  apply tl_inj
  rw [TL.join_eq, TL.tl_join, line_s, List.map_map]
  show TL.joinL [10] ((planC P).map fun c => c) = _
  rw [List.map_id']
  rfl


theorem PlanOk.pl {P : Plm} (h : PlanOk P) : PlOk P := ⟨h.lo, h.hi, h.most, h.la, h.lb, h.ab, ⟨h.k0.hi, h.k0.cmd, h.k0.tgt⟩, ⟨h.k1.hi, h.k1.cmd, h.k1.tgt⟩⟩
structure PlnD (H : Hp) (t sh st ls s0 s1 : Addr) (w0 w1 : List V) (P : Plm) : Prop where
  ht : H t = some (.tup [.ref sh, .ref st, .ref ls])
  hsh : H sh = some (.tup (P.bx.map fun (n : Nat) => V.int n))
  hst : H st = some (.tup [.int P.a, .int P.b])
  hls : H ls = some (.lst [.ref s0, .ref s1])
  h0 : H s0 = some (.lst w0)
  h1 : H s1 = some (.lst w1)
  k0 : All (LkAt H) w0 P.l0
  k1 : All (LkAt H) w1 P.l1
def PlanD (H : Hp) (v : V) (P : Plm) : Prop := ∃ t sh st ls s0 s1 w0 w1, v = .ref t ∧ PlnD H t sh st ls s0 s1 w0 w1 P


section
variable {σ : L2.St} {H : Hp} {D : L2.Ends} {te : TE} {tz : TS} {x y z : V} {b : Addr} {i j l n : Nat}
theorem q_tup2 (h : Ev te σ H (.ref b)) (hb : SqT K H b [x, y]) (hn : 2 = n) (k : ∀ H1, Ex H H1 → tz D ((σ.set i (some x)).set j (some y)) H1) : tSeq (tAsg te (gTup K n (gCons (gName i) (gCons (gName j) gNil)))) tz D σ H :=
  h H (Ex.refl H) _ fun H1 e => ⟨b, [x, y], rfl, ex_t e hb, hn, _, _, rfl, _, _, rfl, rfl, k H1 e⟩
theorem q_tup3 (h : Ev te σ H (.ref b)) (hb : SqT K H b [x, y, z]) (hn : 3 = n) (k : ∀ H1, Ex H H1 → tz D (((σ.set i (some x)).set j (some y)).set l (some z)) H1) : tSeq (tAsg te (gTup K n (gCons (gName i) (gCons (gName j) (gCons (gName l) gNil))))) tz D σ H :=
  h H (Ex.refl H) _ fun H1 e => ⟨b, [x, y, z], rfl, ex_t e hb, hn, _, _, rfl, _, _, rfl, _, _, rfl, rfl, k H1 e⟩
end
theorem el_lcT {K : PySem.W.Frag} {σ : L2.St} {H : Hp} {te tl_ : TE} {t : TT} {a : Addr} {xs : List V} {j : Nat} {vs : List Nat} (f : Nat → Bool) (v : Nat → V) (h : Ev tl_ σ H (.ref a)) (hx : SqT K H a xs) (hz : xs.length ≤ 40000) (hw : ∀ x, wipe ((wipe σ vs).set j (some x)) vs = wipe σ vs)
    (ht : ∀ (i : Nat) (x : V) H1, Ex H H1 → xs[i]? = some x → EvT t ((wipe σ vs).set j (some x)) H1 (f i)) (he : ∀ (i : Nat) (x : V) H1, Ex H H1 → xs[i]? = some x → f i = true → Ev te ((wipe σ vs).set j (some x)) H1 (v i)) :
    EvL (tLc (iTup K tl_) (gName j) t te vs) σ H (given xs.length f v) := fun H0 e Q q => h H0 e _ fun H1 e1 => ⟨a, rfl, ⟨xs, ex_t (e.trans e1) hx⟩, fun Dl hD =>
  lc_tup (xs := xs) (Cw H1 f v Dl) ⟨hD, Ex.new hD, upd_same⟩ (fun i H' _ p => ex_t ((e.trans e1).trans p.2.1) hx) (fun i x H' hi p => ⟨hw x, cw_turn p (by have := (List.getElem?_eq_some_iff.mp hi).1; omega) (ht i x H1 (e.trans e1) hi) (fun hf => he i x H1 (e.trans e1) hi hf)⟩)
    (fun H' p => q Dl H' (fresh_back e1 p.1) (e1.trans p.2.1) p.2.2)⟩
theorem inV_nat (n : Nat) (ms : List Nat) : inV (.int n) (ms.map fun (m : Nat) => V.int m) = decide (n ∈ ms) := by
  have := inV_lk n (ms.map some)
  rw [List.map_map] at this
  rw [show (ms.map fun (m : Nat) => V.int m) = ms.map (lkV ∘ some) from rfl, this]
  apply decide_eq_decide.mpr
  simp
theorem flat_nat (ms : List Nat) : (ms.map fun (m : Nat) => V.int m).all flatV = true := by
  rw [List.all_map]
  exact List.all_eq_true.mpr fun _ _ => rfl
/-- the places to which steps lead -/
def goalsOf (l : List Lk) : List Nat := ((List.range l.length).filter fun i => (l.getD i ("", none)).2.isSome).map fun i => (l.getD i ("", none)).2.getD 0
theorem goals_given (l : List Lk) : given l.length (fun i => (l.getD i ("", none)).2.isSome) (fun i => lkV (l.getD i ("", none)).2) = (goalsOf l).map fun (m : Nat) => V.int m := by
  unfold given goalsOf
  rw [List.map_map]
  refine List.map_congr_left fun i hi => ?_
  have := (List.mem_filter.mp hi).2
  show lkV (l.getD i ("", none)).2 = V.int ((((l.getD i ("", none)).2.getD 0 : Nat)) : Int)
  cases q : (l.getD i ("", none)).2 with
  | none => rw [q] at this; cases this
  | some m => rfl
theorem goals_mem (l : List Lk) (n : Nat) : n ∈ goalsOf l ↔ some n ∈ l.map (·.2) := by
  unfold goalsOf
  simp only [List.mem_map, List.mem_filter, List.mem_range]
  constructor
  · rintro ⟨i, ⟨hi, hs⟩, hn⟩
    rw [List.getD_eq_getElem?_getD, List.getElem?_eq_getElem hi] at hs hn
    refine ⟨l[i], List.getElem_mem hi, ?_⟩
    cases q : (l[i]).2 with
    | none => simp [q] at hs
    | some m => simp [q] at hn; rw [hn]
  · rintro ⟨s, hs, hn⟩
    obtain ⟨i, hi⟩ := List.mem_iff_getElem?.mp hs
    refine ⟨i, ⟨(List.getElem?_eq_some_iff.mp hi).1, ?_⟩, ?_⟩
    · rw [List.getD_eq_getElem?_getD, hi]
      simp [hn]
    · rw [List.getD_eq_getElem?_getD, hi]
      simp [hn]
theorem goals_len (l : List Lk) : (goalsOf l).length ≤ l.length := by
  unfold goalsOf
  rw [List.length_map]
  exact Nat.le_trans (List.length_filter_le _ _) (by rw [List.length_range]; exact Nat.le_refl _)
def spLText : Sp := fun vs H Q _ => ∃ v P, vs = [v] ∧ PlanD H v P ∧ PlOk P ∧ RetV (.str (planText P)) H Q
theorem sp_s : tl (" s" : Str) = [32, 115] := by decide +kernel

theorem ok__law_text (T : Txt K mg) : FnR P w K mg base (L2.CX P w) 1 (He.ga K "_law_text") spLText := by
  obtain ⟨fd, F⟩ := T.F__law_text
  have B : Binds K fd P__law_text [] := F.bindsN fun _ _ _ _ _ _ us hl => match us, hl with | [_], _ => rfl
  refine fnR_of F B (F.ok sc__law_text (fun vs H Q E h => ?_) (fun cdv A outer s H vs Q E hr h => ?_))
  · obtain ⟨v, Pl, rfl, _⟩ := h
    rfl
  · have hu := hu_of hr
    obtain ⟨v, Pl, rfl, hb, hD, k⟩ := h
    refine ⟨_, (pss_cons (ps_asg (pv 0) (pg_tup rfl (pgs_cons (pg_name (i := 1) sc__law_text.nd rfl (by first | exact Or.inl rfl | exact Or.inr rfl)) (pgs_cons (pg_name (i := 2) sc__law_text.nd rfl (by first | exact Or.inl rfl | exact Or.inr rfl)) (pgs_cons (pg_name (i := 3) sc__law_text.nd rfl (by first | exact Or.inl rfl | exact Or.inr rfl)) pgs_nil)))))
        (pss_cons (ps_set (i := 4) sc__law_text.nd rfl (by first | exact Or.inl rfl | exact Or.inr rfl) (pe_lst (pa_cons (pe_op op_add_str (pe_op op_add_str pe_str (pe_join pe_str (pe_lc (te := (tCB (fun xs H Q => ∃ i, xs = [V.int i] ∧ i.natAbs.log2 < 1920 ∧ Q (.str (toString i)) H) (tCons (tVar 12) tNil))) (own := [("_law_pieces", 12)]) rfl sc__law_text.nd (pi_tup (pv 1)) (blkOk_by (own := [("_law_pieces", 12)]) (N := N__law_text) (sc := defScope s__law_text) (by decide +kernel)) (fun _ _ _ _ _ => by exact pg_name (i := 12) sc__law_text.nd rfl (by first | exact Or.inl rfl | exact Or.inr rfl)) (fun _ _ _ _ _ => by exact pts_nil) (fun _ _ _ _ _ => by exact (pe_callTy call_str_int (by rfl) T.b_str (by decide +kernel) (pa_cons (pv 12) pa_nil)))))) pe_str) pa_nil)))
        (pss_cons (ps_for (passes_of rfl) rfl (pi_range1 (by rfl) T.b_range (pa_cons pe_int pa_nil)) (pg_name (i := 5) sc__law_text.nd rfl (by first | exact Or.inl rfl | exact Or.inr rfl)) (pss_cons (ps_expr (pe_bm PySem.F.plainAttrs_list PySem.F.slot_list_append PySem.F.type_list_append mt_append (pv 4) (pa_cons (pe_op op_add_str (pe_op op_add_str pe_str (pe_callTy call_str_int (by rfl) T.b_str (by decide +kernel) (pa_cons (pe_ix ix_tup (pv 2) (pv 5) (fun _ _ => rfl)) pa_nil))) pe_str) pa_nil)))
        (pss_cons (ps_setLc (i := 6) (te := (tVar 9)) (g := gTup K 2 (gCons (gName 8) (gCons (gName 9) gNil))) (own := [("_law_word", 8), ("_law_goal", 9)]) rfl sc__law_text.nd rfl rfl (sw_true rfl rfl rfl (by decide +kernel)) (pi_list (pe_ix ix_list (pv 3) (pv 5) (fun _ _ => rfl))) (blkOk_by (own := [("_law_word", 8), ("_law_goal", 9)]) (N := N__law_text) (sc := defScope s__law_text) (by decide +kernel)) (fun _ _ _ _ _ => by exact pg_tup rfl (pgs_cons (pg_name (i := 8) sc__law_text.nd rfl (by first | exact Or.inl rfl | exact Or.inr rfl)) (pgs_cons (pg_name (i := 9) sc__law_text.nd rfl (by first | exact Or.inl rfl | exact Or.inr rfl)) pgs_nil))) (fun _ _ _ _ _ => by exact (pts_one (pt_cmpR op_notN (pv 9) pe_non (nomark _)))) (fun _ _ _ _ _ => by exact (pv 9)))
        (pss_cons (ps_for (passes_of rfl) rfl (pi_range1 (by rfl) T.b_range (pa_cons (pe_callB call_len_seq (by rfl) T.b_len (by decide +kernel) (pa_cons (pe_ix ix_list (pv 3) (pv 5) (fun _ _ => rfl)) pa_nil)) pa_nil)) (pg_name (i := 7) sc__law_text.nd rfl (by first | exact Or.inl rfl | exact Or.inr rfl)) (pss_cons (ps_asg (pe_ix ix_list (pe_ix ix_list (pv 3) (pv 5) (fun _ _ => rfl)) (pv 7) (fun _ _ => rfl)) (pg_tup rfl (pgs_cons (pg_name (i := 8) sc__law_text.nd rfl (by first | exact Or.inl rfl | exact Or.inr rfl)) (pgs_cons (pg_name (i := 9) sc__law_text.nd rfl (by first | exact Or.inl rfl | exact Or.inr rfl)) pgs_nil))))
        (pss_cons (ps_set (i := 10) sc__law_text.nd rfl (by first | exact Or.inl rfl | exact Or.inr rfl) (pe_ifExp (pt_cmpR op_in_seq (pv 7) (pv 6) (by rfl)) (pe_op op_add_str (pe_op op_add_str pe_str (pe_ix ix_str pe_str (pv 7) (fun _ _ => rfl))) pe_str) pe_str))
        (pss_cons (ps_set (i := 11) sc__law_text.nd rfl (by first | exact Or.inl rfl | exact Or.inr rfl) (pe_ifExp (pt_cmpR op_notN (pv 9) pe_non (nomark _)) (pe_op op_add_str pe_str (pe_ix ix_str pe_str (pv 9) (fun _ _ => rfl))) pe_str))
        (pss_one (ps_expr (pe_bm PySem.F.plainAttrs_list PySem.F.slot_list_append PySem.F.type_list_append mt_append (pv 4) (pa_cons (pe_op op_add_str (pe_op op_add_str (pe_op op_add_str (pe_op op_add_str pe_str (pv 10)) (pv 8)) (pv 11)) pe_str) pa_nil))))))))
        (pss_one (ps_expr (pe_bm PySem.F.plainAttrs_list PySem.F.slot_list_append PySem.F.type_list_append mt_append (pv 4) (pa_cons pe_str pa_nil))))))))
        (pss_one (ps_ret (pe_join pe_str (pv 4))))))), ?_⟩
    obtain ⟨t, sh, st, ls, s0, s1, w0, w1, rfl, h⟩ := hb
    have hO := hD
    have hhi := hO.hi
    have hla := hO.la
    have hlb := hO.lb
    have sz : 1000 < sizeLine := by decide
    refine q_tup3 (ev_var rfl) (st_of h.ht) rfl fun H1 e1 => ?_
    have hb2 : ∀ y ∈ Pl.bx.map numS, y.length ≤ 2 := fun y hy => by
      obtain ⟨n, hn, rfl⟩ := List.mem_map.mp hy
      have := hO.most n hn
      exact numS_len (by omega)
    have hsum := sum_le _ hb2
    rw [List.length_map] at hsum
    have b1 : ((" " : Str)).length = 1 := by decide +kernel
    have etl : tl (Txt.join (" " : Str) (Pl.bx.map numS)) = TL.joinL [32] (Pl.bx.map TL.numL) := by
      rw [TL.join_eq, TL.tl_join, blank1, List.map_map]
      exact congrArg (TL.joinL [32]) (List.map_congr_left fun n _ => numS_tl n)
    have hjl : (Txt.join (" " : Str) (Pl.bx.map numS)).length ≤ 60 := by
      rw [← len_tl, etl]
      have := hdC_len hO
      unfold hdC at this
      simp only [List.length_append] at this
      omega
    have s6 : (("shelf " : Str)).length = 6 := by decide +kernel
    have s1' : ((";" : Str)).length = 1 := by decide +kernel
    refine q_asgL (el_lst (vs := [V.str (mkS (hdC Pl))]) (ea_cons (ev_is (ev_op (ev_op ev_c (ev_joinN (ys := Pl.bx.map numS) ev_c (el_eq (el_lcT (xs := Pl.bx.map fun (n : Nat) => V.int n) (fun _ => true) (fun i => V.str (numS (Pl.bx.getD i 0))) (ev_var rfl) (st_of (e1 _ _ h.hsh)) (by rw [List.length_map]; omega) (fun _ => rfl) (fun _ _ _ _ _ => et_yes) fun i y H3 e3 hy _ => ?_) (given_all (by rw [List.length_map, List.length_map, List.length_map]) fun i y hy => ?_)) (by rw [List.length_map, b1]; omega)) (rv_addS (by omega))) ev_c (rv_addS (by rw [app_len]; omega))) (congrArg V.str (tl_inj ?_))) ea_nil) (by show 1 ≤ 100000; decide)) fun p H2 hp2 e2 h2 => ?_
    · rw [List.getElem?_map] at hy
      cases q : Pl.bx[i]? with
      | none => rw [q] at hy; cases hy
      | some n =>
        rw [q] at hy
        obtain rfl : V.int n = y := Option.some.inj hy
        have := hO.most n (List.mem_of_getElem? q)
        rw [List.getD_eq_getElem?_getD, q]
        exact ev_strI (n := n) (ev_var rfl) (by omega)
    · rw [List.map_map, List.getElem?_map] at hy
      cases q : Pl.bx[i]? with
      | none => rw [q] at hy; cases hy
      | some n =>
        rw [q] at hy
        rw [List.getD_eq_getElem?_getD, q]
        exact Option.some.inj hy
    · rw [TL.tl_append, TL.tl_append, etl, semi1]
      rfl
    have e02 := e1.trans e2
    have hp : H p = none := fresh_back e1 hp2
    have k1 : (("s" : Str)).length = 1 := by decide +kernel
    have k2 : ((": " : Str)).length = 2 := by decide +kernel
    have k3 : ((" s" : Str)).length = 2 := by decide +kernel
    have k4 : (("  " : Str)).length = 2 := by decide +kernel
    have r6 : (("robot " : Str)).length = 6 := by decide +kernel
    have r2 : ((" {" : Str)).length = 2 := by decide +kernel
    refine q_forR1 (n := 2) (ea_cons ev_c ea_nil) (by omega) (fun i σ' H' => ∃ (y5 y6 y7 y8 y9 y10 y11 : Option V), σ' = [some (.ref t), some (.ref sh), some (.ref st), some (.ref ls), some (.ref p), y5, y6, y7, y8, y9, y10, y11, none] ∧ Ex H H' ∧ H' p = some (.lst ((lnsP Pl i).map fun c => V.str (mkS c))))
      (fun H3 e3 => ⟨none, none, none, none, none, none, none, rfl, e02.trans e3, e3 _ _ h2⟩) ?_ ?_
    · rintro i σ' H3 hi ⟨y5, y6, y7, y8, y9, y10, y11, rfl, e3, h3⟩
      obtain ⟨n, l, sN, wN, gn, gs, gw, gA, hOl, hn, hlen, hnx⟩ : ∃ (n : Nat) (l : List Lk) (sN : Addr) (wN : List V), [V.int Pl.a, V.int Pl.b][i]? = some (.int n) ∧ [V.ref s0, V.ref s1][i]? = some (.ref sN) ∧ H sN = some (.lst wN) ∧ All (LkAt H) wN l ∧ LkOk l ∧ n < 12 ∧ (lnsP Pl i).length ≤ 25 ∧ lnsP Pl (i + 1) = lnsP Pl i ++ robC n l := by
        have k0 := hO.k0.len
        match i, hi with
        | 0, _ =>
          exact ⟨Pl.a, Pl.l0, s0, w0, rfl, rfl, h.h0, h.k0, hO.k0, by omega, by show 1 ≤ 25; decide, by
            show hdC Pl :: (robC Pl.a Pl.l0 ++ []) = [hdC Pl] ++ robC Pl.a Pl.l0
            rw [List.append_nil]
            rfl⟩
        | 1, _ =>
          refine ⟨Pl.b, Pl.l1, s1, w1, rfl, rfl, h.h1, h.k1, hO.k1, by omega, ?_, ?_⟩
          · show (robC Pl.a Pl.l0 ++ []).length + 1 ≤ 25
            rw [List.append_nil, robC_len]
            omega
          · show hdC Pl :: (robC Pl.a Pl.l0 ++ robC Pl.b Pl.l1) = (hdC Pl :: (robC Pl.a Pl.l0 ++ [])) ++ robC Pl.b Pl.l1
            rw [List.append_nil]
            rfl
        | i + 2, hi => omega
      have l20 := hOl.len
      have gl := gA.len
      have n2 : (numS n).length ≤ 2 := numS_len (by omega)
      have hz0 : (0 : Int) + (i : Int) = (i : Int) := Int.zero_add _
      refine q_appP (P := fun v _ => v = V.str (mkS (tl ("robot " : Str) ++ TL.numL n ++ [32, 123]))) h3 (ev_var rfl) (Ev.p (ev_is (ev_op (ev_op ev_c (ev_strI (n := n) (ev_op (ev_var rfl) (ev_var rfl) (rv_ixT (i := (i : Int)) (st_of (e3 _ _ h.hst)) (at_nat gn))) (by omega)) (rv_addS (by omega))) ev_c (rv_addS (by rw [app_len]; omega))) (congrArg V.str (tl_inj ?_))) fun _ _ => rfl) (by rw [List.length_map]; omega) fun v H5 e5 hv5 => ?_
      · rw [TL.tl_append, TL.tl_append, brace_s, numS_tl]
        rfl
      subst hv5
      have e45 := e3.trans e5
      have E5 := Ex.mut e45 hp (o := .lst ((lnsP Pl i).map (fun c => V.str (mkS c)) ++ [V.str (mkS (tl ("robot " : Str) ++ TL.numL n ++ [32, 123]))]))
      -- goals
      refine q_asgL (xs := (goalsOf l).map fun (m : Nat) => V.int m) (el_eq (el_lcP (xs := wN) (fun i => (l.getD i ("", none)).2.isSome) (fun i => lkV (l.getD i ("", none)).2) (ev_op (ev_var rfl) (ev_var rfl) (rv_ixL (i := (i : Int)) (sq_of (E5 _ _ h.hls)) (at_nat gs))) (sq_of (E5 _ _ gw)) (by omega) rfl (fun _ _ => rfl) fun i x hx => ?_) (by rw [gl]; exact goals_given l)) fun ga H6 hga e6 h6 => ?_
      · obtain ⟨s, hs, b, rfl, hb⟩ := gA.getV hx
        refine ⟨b, _, _, rfl, st_of (E5 _ _ hb), fun H2 e2 => ?_, fun H2 e2 _ => ?_⟩
        · refine et_test (ev_is (ev_op (ev_var rfl) ev_c rv_noN) ?_)
          rw [List.getD_eq_getElem?_getD, hs]
          show V.bl (!decide (lkV s.2 = V.non)) = V.bl s.2.isSome
          cases s.2 <;> rfl
        · refine ev_is (ev_var rfl) ?_
          rw [List.getD_eq_getElem?_getD, hs]
          rfl
      have E6 := E5.trans e6
      have npg : p ≠ ga := ne_of_none upd_same hga
      have h6p := e6 _ _ upd_same
      have hstL : (stepLs l).length = l.length := stepsFrom_len _ _ _
      refine q_forR1 (n := ((wN.length : Nat) : Int)) (ea_cons (ev_len (ev_op (ev_var rfl) (ev_var rfl) (rv_ixL (i := (i : Int)) (sq_of (E6 _ _ h.hls)) (at_nat gs))) (sq_of (E6 _ _ gw))) ea_nil) (by omega)
        (fun k σ' H' => ∃ (y7 y8 y9 y10 y11 : Option V), σ' = [some (.ref t), some (.ref sh), some (.ref st), some (.ref ls), some (.ref p), some (.int (i : Int)), some (.ref ga), y7, y8, y9, y10, y11, none] ∧ Ex H H' ∧ H' ga = some (.lst ((goalsOf l).map fun (m : Nat) => V.int m)) ∧ H' p = some (.lst (((lnsP Pl i).map (fun c => V.str (mkS c)) ++ [V.str (mkS (tl ("robot " : Str) ++ TL.numL n ++ [32, 123]))]) ++ ((stepLs l).take k).map fun c => V.str (mkS c))))
        (fun H7 e7 => ⟨_, _, _, _, _, rfl, E6.trans e7, e7 _ _ h6, by rw [List.take_zero, List.map_nil, List.append_nil]; exact e7 _ _ h6p⟩) ?_ ?_
      · rintro k σ' H7 hk ⟨z7, z8, z9, z10, z11, rfl, E7, h7, h7p⟩
        have hkl : k < l.length := by omega
        have hs : l[k]? = some l[k] := List.getElem?_eq_getElem hkl
        generalize l[k] = s at hs
        obtain ⟨v, hv, b, rfl, hb⟩ := gA.get hs
        have hmem := List.mem_of_getElem? hs
        have hw5 := cmd_len (hOl.word s hmem)
        refine q_tup2 (ev_op (ev_op (ev_var rfl) (ev_var rfl) (rv_ixL (i := (i : Int)) (sq_of (E7 _ _ h.hls)) (at_nat gs))) (ev_var rfl) (rv_ixL (i := (k : Int)) (sq_of (E7 _ _ gw)) (at_nat hv))) (st_of (E7 _ _ hb)) rfl fun H8 e8 => ?_
        let lb : Str := if some k ∈ l.map (·.2) then mkS (labC k ++ [58, 32]) else mkS []
        let jp : Str := match s.2 with
          | none => mkS []
          | some t => mkS (32 :: labC t)
        have hlb : lb.length ≤ 4 := by
          show (if some k ∈ l.map (·.2) then mkS (labC k ++ [58, 32]) else mkS []).length ≤ 4
          split
          · exact Nat.le_refl 4
          · exact Nat.zero_le 4
        have hjp : jp.length ≤ 3 := by
          show (match s.2 with | none => mkS [] | some t => mkS (32 :: labC t)).length ≤ 3
          cases s.2 with
          | none => exact Nat.zero_le 3
          | some t => exact Nat.le_refl 3
        refine q_asg (v := .str lb) (ev_if (b := decide (some k ∈ l.map (·.2))) (et_test (ev_is (ev_op (ev_var rfl) (ev_var rfl) (rv_isL (sq_of (e8 _ _ h7)) rfl (flat_nat _))) (congrArg V.bl ?_))) (fun hb => ?_) (fun hb => ?_)) fun H9 e9 => ?_
        · show inV (.int (k : Nat)) _ = _
          rw [inV_nat]
          exact decide_eq_decide.mpr (goals_mem l k)
        · refine ev_is (ev_op (ev_op ev_c (ev_op ev_c (ev_var rfl) (rv_ixS' (i := k) (by decide +kernel) (letter_at (n := k) (by omega)))) (rv_addS (by show ("s" : Str).length + 1 ≤ sizeLine; omega))) ev_c (rv_addS (by rw [app_len]; show ("s" : Str).length + 1 + _ ≤ sizeLine; omega))) (congrArg V.str (tl_inj ?_))
          rw [TL.tl_append, TL.tl_append, let_s, colon2]
          show [115] ++ [97 + k] ++ [58, 32] = tl (if some k ∈ l.map (·.2) then mkS (labC k ++ [58, 32]) else mkS [])
          rw [if_pos (of_decide_eq_true hb)]
          rfl
        · refine ev_is ev_c (congrArg V.str ?_)
          show ("" : Str) = if some k ∈ l.map (·.2) then mkS (labC k ++ [58, 32]) else mkS []
          rw [if_neg (of_decide_eq_false hb), empty0]
        refine q_asg (v := .str jp) (ev_if (b := s.2.isSome) (et_test (ev_is (ev_op (ev_var rfl) ev_c rv_noN) (congrArg V.bl (by cases s.2 <;> rfl)))) (fun hb => ?_) (fun hb => ?_)) fun H10 e10 => ?_
        · obtain ⟨m, em⟩ : ∃ m, s.2 = some m := by
            cases q : s.2 with
            | none => rw [q] at hb; cases hb
            | some m => exact ⟨m, rfl⟩
          have hm := hOl.tgt s hmem m em
          refine ev_is (ev_op ev_c (ev_op ev_c (ev_is (w := .int (m : Nat)) (ev_var rfl) (by rw [em]; rfl)) (rv_ixS' (i := m) (by decide +kernel) (letter_at (n := m) (by omega)))) (rv_addS (by show (" s" : Str).length + 1 ≤ sizeLine; omega))) (congrArg V.str (tl_inj ?_))
          rw [TL.tl_append, sp_s]
          show [32, 115] ++ [97 + m] = tl (match s.2 with | none => mkS [] | some t => mkS (32 :: labC t))
          rw [em]
          rfl
        · refine ev_is ev_c (congrArg V.str ?_)
          show ("" : Str) = match s.2 with | none => mkS [] | some t => mkS (32 :: labC t)
          cases q : s.2 with
          | none => exact empty0
          | some t => rw [q] at hb; cases hb
        have hp10 := ((e8.trans e9).trans e10) _ _ h7p
        have hstep := stepsFrom_get (l.map (·.2)) l 0 k s hs
        refine s_appP (P := fun v _ => v = V.str (mkS (stepC (l.map (·.2)) k s))) hp10 (ev_var rfl) (Ev.p (ev_is (ev_op (ev_op (ev_op (ev_op ev_c (ev_var rfl) (rv_addS (by omega))) (ev_var rfl) (rv_addS (by rw [app_len]; omega))) (ev_var rfl) (rv_addS (by rw [app_len, app_len]; omega))) ev_c (rv_addS (by rw [app_len, app_len, app_len]; omega))) (congrArg V.str (tl_inj ?_))) fun _ _ => rfl) (by simp only [List.length_append, List.length_map, List.length_cons, List.length_nil, List.length_take]; omega) fun v H11 e11 hv11 => ?_
        · rw [TL.tl_append, TL.tl_append, TL.tl_append, TL.tl_append]
          have t1 : tl lb = if some k ∈ l.map (·.2) then labC k ++ [58, 32] else [] := by
            show tl (if some k ∈ l.map (·.2) then mkS (labC k ++ [58, 32]) else mkS []) = _
            split <;> rfl
          have t2 : tl jp = match s.2 with | none => [] | some t => 32 :: labC t := by
            show tl (match s.2 with | none => mkS [] | some t => mkS (32 :: labC t)) = _
            cases s.2 <;> rfl
          rw [t1, t2, blank2, semi1]
          rfl
        · subst hv11
          refine ⟨_, _, _, _, _, rfl, Ex.mut ((((E7.trans e8).trans e9).trans e10).trans e11) hp, ?_, ?_⟩
          · rw [upd_ne (Ne.symm npg)]
            exact (((e8.trans e9).trans e10).trans e11) _ _ h7
          · rw [upd_same, take_more (l := stepLs l) (i := k) (x := stepC (l.map (·.2)) k s) (by rw [Nat.zero_add] at hstep; exact hstep), List.map_append, List.append_assoc]
            rfl
      · rintro σ' H7 ⟨z7, z8, z9, z10, z11, rfl, E7, h7, h7p⟩
        rw [List.take_of_length_le (by show (stepLs l).length ≤ wN.length; omega)] at h7p
        refine s_appP (P := fun v _ => v = V.str (mkS [125])) h7p (ev_var rfl) (Ev.p (ev_is ev_c (congrArg V.str close_s)) fun _ _ => rfl) (by simp only [List.length_append, List.length_map, List.length_cons, List.length_nil]; omega) fun v H8 e8 hv8 => ?_
        subst hv8
        refine ⟨_, _, _, _, _, _, _, rfl, Ex.mut (E7.trans e8) hp, ?_⟩
        rw [upd_same, hnx]
        unfold robC
        simp only [List.map_append, List.map_cons, List.map_nil, List.append_assoc, List.cons_append, List.nil_append]
    · rintro σ' H' ⟨y5, y6, y7, y8, y9, y10, y11, rfl, e3, h3⟩
      have h3' : H' p = some (.lst (((planC Pl).map mkS).map V.str)) := by
        rw [List.map_map]
        exact h3
      have bnd := sum_le (k := 60) ((planC Pl).map mkS) fun y hy => by
        obtain ⟨c, hc, rfl⟩ := List.mem_map.mp hy
        exact planC_small hO c hc
      have pl := planC_len hO
      have nl : (("\n" : Str)).length = 1 := by decide +kernel
      refine s_ret (ev_is (ev_joinL ev_c (ev_var rfl) h3' (by rw [List.length_map] at bnd ⊢; rw [nl]; omega)) (congrArg V.str (planText_join Pl))) fun H4 e4 => k H4 (e3.trans e4)

end SB

set_option maxHeartbeats 4000000
namespace SB
open PySem PySem.Spec PyProof.Rows L2
open TL (tl)
open Evl
variable {P : Program} {w : World} {K : PySem.W.Frag} {mg : Str → Option Value} {base : Heap}


/-- two values of one form, to the depth n -/
def EqV : Nat → Hp → V → V → Prop
  | 0, _, _, _ => False
  | n + 1, H, x, y => (x = .non ∧ y = .non) ∨ (∃ b, x = .bl b ∧ y = .bl b) ∨ (∃ z, x = .str z ∧ y = .str z) ∨ (∃ i, x = .int i ∧ y = .int i) ∨ (∃ p q us vs, x = .ref p ∧ y = .ref q ∧ ((H p = some (.lst us) ∧ H q = some (.lst vs)) ∨ (H p = some (.tup us) ∧ H q = some (.tup vs))) ∧
    us.length = vs.length ∧ us.length ≤ 1000 ∧ ∀ (i : Nat) u v, us[i]? = some u → vs[i]? = some v → EqV n H u v)
theorem EqV.ex : ∀ {n : Nat} {H H' : Hp} {x y : V}, Ex H H' → EqV n H x y → EqV n H' x y
  | 0, _, _, _, _, _, h => h
  | n + 1, H, H', x, y, e, h => by
    rcases h with h | h | h | h | ⟨p, q, us, vs, e1, e2, h1, h2, h3, h4⟩
    · exact .inl h
    · exact .inr (.inl h)
    · exact .inr (.inr (.inl h))
    · exact .inr (.inr (.inr (.inl h)))
    · refine .inr (.inr (.inr (.inr ⟨p, q, us, vs, e1, e2, ?_, h2, h3, fun i u v a b => (h4 i u v a b).ex e⟩)))
      rcases h1 with ⟨a, b⟩ | ⟨a, b⟩
      · exact .inl ⟨e _ _ a, e _ _ b⟩
      · exact .inr ⟨e _ _ a, e _ _ b⟩
def spEq (n : Nat) : Sp := fun vs H Q _ => ∃ x y, vs = [x, y] ∧ EqV n H x y ∧ RetV (.bl true) H Q
def rIxB (K : PySem.W.Frag) : R2 := fun x y H Q => rIxL K x y H Q ∨ rIxT K x y H Q
theorem ix_both {X : Cx} : IxR X (rIxB X.K) := ix_list.or ix_tup
theorem ev_isi {K : PySem.W.Frag} {σ : L2.St} {H : Hp} {ta : TE} {x : V} {tn cn : String} {b : Bool} (h : Ev ta σ H x) (ht : ∀ H1, Ex H H1 → TyOf K H1 x (.type tn)) (hk : kitB tn cn = some b) : Ev (tCB (rIsi K) (tCons ta (tCons (tC (.ty cn)) tNil))) σ H (.bl b) := fun H1 e Q q =>
  h H1 e _ fun H2 e2 => ⟨x, .ty cn, .type tn, .type cn, b, rfl, .ty cn, .base (ht H2 (e.trans e2)), kit_ty hk, q H2 e2⟩
theorem ev_lenT {K : PySem.W.Frag} {σ : L2.St} {H : Hp} {ta : TE} {p : Addr} {xs : List V} (ha : Ev ta σ H (.ref p)) (h : SqT K H p xs) : Ev (tCB (rLenS K) (tCons ta tNil)) σ H (.int (xs.length : Int)) := fun H1 e Q q =>
  ha H1 e _ fun H2 e2 => ⟨p, xs, rfl, .inr (ex_t (e.trans e2) h), q H2 e2⟩
theorem ev_all {K : PySem.W.Frag} {σ : L2.St} {H : Hp} {te : TE} {bs : List Bool} (h : EvL te σ H (bs.map V.bl)) : Ev (tCB (rAll K) (tCons te tNil)) σ H (.bl (bs.all id)) := fun H1 e Q q =>
  h H1 e _ fun p H2 _ e2 hp => ⟨p, bs, rfl, sq_of hp, q H2 e2⟩

theorem ok__law_equal_S {n : Nat} (T : Txt K mg) (G__law_equal : FnR P w K mg base (L2.CX P w) n (He.ga K "_law_equal") (spEq n)) (KP__law_equal : PySem.W.keepIn K (.ref (He.ga K "_law_equal")) = true) : FnR P w K mg base (L2.CX P w) (n + 1) (He.ga K "_law_equal") (spEq (n + 1)) := by
  obtain ⟨fd, F⟩ := T.F__law_equal
  have B : Binds K fd P__law_equal [] := F.bindsN fun _ _ _ _ _ _ us hl => match us, hl with | [_, _], _ => rfl
  refine fnR_of F B (F.ok sc__law_equal (fun vs H Q E h => ?_) (fun cdv A outer s H vs Q E hr h => ?_))
  · obtain ⟨x, y, rfl, _⟩ := h
    rfl
  · have hu := hu_of hr
    obtain ⟨x, y, rfl, hE, k⟩ := h
    refine ⟨_, (pss_cons (ps_if (pt_cmpR op_isN (pv 1) pe_non (nomark _)) (pss_one (ps_ret (pe_cmpR op_isN (pv 0) pe_non (nomark _)))) pss_nil)
        (pss_cons (ps_if (pt_val (pe_callB call_isi (by rfl) T.b_isinstance (by decide +kernel) (pa_cons (pv 1) (pa_cons (pe_bltn (v := V.ty "bool") (by rfl) T.b_bool (by decide +kernel) rfl) pa_nil)))) (pss_one (ps_ret (pe_and (pe_callB call_isi (by rfl) T.b_isinstance (by decide +kernel) (pa_cons (pv 0) (pa_cons (pe_bltn (v := V.ty "bool") (by rfl) T.b_bool (by decide +kernel) rfl) pa_nil))) (pe_one (pe_cmpR op_eq (pv 0) (pv 1) (nomark _)))))) pss_nil)
        (pss_cons (ps_if (pt_val (pe_callB call_isi (by rfl) T.b_isinstance (by decide +kernel) (pa_cons (pv 1) (pa_cons (pe_bltn (v := V.ty "int") (by rfl) T.b_int (by decide +kernel) rfl) pa_nil)))) (pss_one (ps_ret (pe_and (pe_callB call_isi (by rfl) T.b_isinstance (by decide +kernel) (pa_cons (pv 0) (pa_cons (pe_bltn (v := V.ty "int") (by rfl) T.b_int (by decide +kernel) rfl) pa_nil))) (pe_and (pe_not (pe_callB call_isi (by rfl) T.b_isinstance (by decide +kernel) (pa_cons (pv 0) (pa_cons (pe_bltn (v := V.ty "bool") (by rfl) T.b_bool (by decide +kernel) rfl) pa_nil)))) (pe_one (pe_cmpR op_eq (pv 0) (pv 1) (nomark _))))))) pss_nil)
        (pss_cons (ps_if (pt_val (pe_callB call_isi (by rfl) T.b_isinstance (by decide +kernel) (pa_cons (pv 1) (pa_cons (pe_bltn (v := V.ty "str") (by rfl) T.b_str (by decide +kernel) rfl) pa_nil)))) (pss_one (ps_ret (pe_and (pe_callB call_isi (by rfl) T.b_isinstance (by decide +kernel) (pa_cons (pv 0) (pa_cons (pe_bltn (v := V.ty "str") (by rfl) T.b_str (by decide +kernel) rfl) pa_nil))) (pe_one (pe_cmpR op_eq (pv 0) (pv 1) (nomark _)))))) pss_nil)
        (pss_cons (ps_if (pt_cmpR op_ne (pe_callB call_isi (by rfl) T.b_isinstance (by decide +kernel) (pa_cons (pv 1) (pa_cons (pe_bltn (v := V.ty "tuple") (by rfl) T.b_tuple (by decide +kernel) rfl) pa_nil))) (pe_callB call_isi (by rfl) T.b_isinstance (by decide +kernel) (pa_cons (pv 0) (pa_cons (pe_bltn (v := V.ty "tuple") (by rfl) T.b_tuple (by decide +kernel) rfl) pa_nil))) (nomark _)) (pss_one (ps_ret pe_bl)) pss_nil)
        (pss_cons (ps_if (pt_cmpR op_ne (pe_callB call_isi (by rfl) T.b_isinstance (by decide +kernel) (pa_cons (pv 1) (pa_cons (pe_bltn (v := V.ty "list") (by rfl) T.b_list (by decide +kernel) rfl) pa_nil))) (pe_callB call_isi (by rfl) T.b_isinstance (by decide +kernel) (pa_cons (pv 0) (pa_cons (pe_bltn (v := V.ty "list") (by rfl) T.b_list (by decide +kernel) rfl) pa_nil))) (nomark _)) (pss_one (ps_ret pe_bl)) pss_nil)
        (pss_cons (ps_if (pt_cmpR op_ne (pe_callB call_len_seq (by rfl) T.b_len (by decide +kernel) (pa_cons (pv 0) pa_nil)) (pe_callB call_len_seq (by rfl) T.b_len (by decide +kernel) (pa_cons (pv 1) pa_nil)) (nomark _)) (pss_one (ps_ret pe_bl)) pss_nil)
        (pss_one (ps_ret (pe_callB (cr_all rfl) (by rfl) T.b_all (by decide +kernel) (pa_cons (pe_lc (te := tCallR (spEq n) E0 (tCons (tOp (rIxB K) (tVar 0) (tVar 2)) (tCons (tOp (rIxB K) (tVar 1) (tVar 2)) tNil))) (own := [("_law_k", 2)]) rfl sc__law_equal.nd (pi_range1 (by rfl) T.b_range (pa_cons (pe_callB call_len_seq (by rfl) T.b_len (by decide +kernel) (pa_cons (pv 1) pa_nil)) pa_nil)) (blkOk_by (own := [("_law_k", 2)]) (N := N__law_equal) (sc := defScope s__law_equal) (by decide +kernel)) (fun _ _ _ _ _ => by exact pg_name (i := 2) sc__law_equal.nd rfl (by first | exact Or.inl rfl | exact Or.inr rfl)) (fun _ _ _ _ _ => by exact pts_nil) (fun _ _ _ _ _ => by exact (pe_callR G__law_equal hr T.g__law_equal KP__law_equal passL (pa_cons (pe_ix ix_both (pv 0) (pv 2) (fun _ _ => rfl)) (pa_cons (pe_ix ix_both (pv 1) (pv 2) (fun _ _ => rfl)) pa_nil))))) pa_nil))))))))))), ?_⟩
    rcases hE with ⟨rfl, rfl⟩ | ⟨b, rfl, rfl⟩ | ⟨z, rfl, rfl⟩ | ⟨i, rfl, rfl⟩ | ⟨p, q, us, vs, rfl, rfl, hpq, hlen, h1000, hall⟩
    · refine q_when (b := true) (et_test (ev_is (ev_op (ev_var rfl) ev_c rv_isN) (by rw [decide_eq_true rfl]))) (fun _ H1 e1 => ?_) (fun hb => by cases hb)
      exact s_ret (ev_is (ev_op (ev_var rfl) ev_c rv_isN) (by rw [decide_eq_true rfl])) fun H2 e2 => k H2 (e1.trans e2)
    · refine q_when (b := false) (et_test (ev_is (ev_op (ev_var rfl) ev_c rv_isN) rfl)) (fun hb => by cases hb) fun _ H1 e1 => ?_
      refine q_when (b := true) (et_B (ev_isi (ev_var rfl) (fun _ _ => .bl b) (by decide +kernel))) (fun _ H2 e2 => ?_) (fun hb => by cases hb)
      refine s_ret (ev_is (ev_andV (ev_isi (b := true) (ev_var rfl) (fun _ _ => .bl b) (by decide +kernel)) fun _ => ev_op (ev_var rfl) (ev_var rfl) (rv_eq rfl)) ?_) fun H3 e3 => k H3 ((e1.trans e2).trans e3)
      show V.bl (true && decide (V.bl b = V.bl b)) = V.bl true
      rw [decide_eq_true rfl]
      rfl
    · refine q_when (b := false) (et_test (ev_is (ev_op (ev_var rfl) ev_c rv_isN) rfl)) (fun hb => by cases hb) fun _ H1 e1 => ?_
      refine q_when (b := false) (et_B (ev_isi (ev_var rfl) (fun _ _ => .str z) (by decide +kernel))) (fun hb => by cases hb) fun _ H2 e2 => ?_
      refine q_when (b := false) (et_B (ev_isi (ev_var rfl) (fun _ _ => .str z) (by decide +kernel))) (fun hb => by cases hb) fun _ H3 e3 => ?_
      refine q_when (b := true) (et_B (ev_isi (ev_var rfl) (fun _ _ => .str z) (by decide +kernel))) (fun _ H4 e4 => ?_) (fun hb => by cases hb)
      refine s_ret (ev_is (ev_andV (ev_isi (b := true) (ev_var rfl) (fun _ _ => .str z) (by decide +kernel)) fun _ => ev_op (ev_var rfl) (ev_var rfl) (rv_eq rfl)) ?_) fun H5 e5 => k H5 ((((e1.trans e2).trans e3).trans e4).trans e5)
      show V.bl (true && decide (V.str z = V.str z)) = V.bl true
      rw [decide_eq_true rfl]
      rfl
    · refine q_when (b := false) (et_test (ev_is (ev_op (ev_var rfl) ev_c rv_isN) rfl)) (fun hb => by cases hb) fun _ H1 e1 => ?_
      refine q_when (b := false) (et_B (ev_isi (ev_var rfl) (fun _ _ => .int i) (by decide +kernel))) (fun hb => by cases hb) fun _ H2 e2 => ?_
      refine q_when (b := true) (et_B (ev_isi (ev_var rfl) (fun _ _ => .int i) (by decide +kernel))) (fun _ H3 e3 => ?_) (fun hb => by cases hb)
      refine s_ret (ev_is (ev_andV (ev_isi (b := true) (ev_var rfl) (fun _ _ => .int i) (by decide +kernel)) fun _ => ev_andV (ev_notV (ev_isi (b := false) (ev_var rfl) (fun _ _ => .int i) (by decide +kernel))) fun _ => ev_op (ev_var rfl) (ev_var rfl) (rv_eq rfl)) ?_) fun H5 e5 => k H5 (((e1.trans e2).trans e3).trans e5)
      show V.bl (true && (!false && decide (V.int i = V.int i))) = V.bl true
      rw [decide_eq_true rfl]
      rfl
    · obtain ⟨tn, bt, bl, tp, tq, k1, k2, k3, k4, k5, hsq⟩ : ∃ (tn : String) (bt bl : Bool), (∀ H1, Ex H H1 → TyOf K H1 (.ref p) (.type tn)) ∧ (∀ H1, Ex H H1 → TyOf K H1 (.ref q) (.type tn)) ∧ kitB tn "bool" = some false ∧ kitB tn "int" = some false ∧ kitB tn "str" = some false ∧ kitB tn "tuple" = some bt ∧ kitB tn "list" = some bl ∧
          ∀ H1, Ex H H1 → (SqL K H1 p us ∧ SqL K H1 q vs) ∨ (SqT K H1 p us ∧ SqT K H1 q vs) := by
        rcases hpq with ⟨a, b⟩ | ⟨a, b⟩
        · exact ⟨"list", false, true, fun H1 e => .lst (e _ _ a), fun H1 e => .lst (e _ _ b), by decide +kernel, by decide +kernel, by decide +kernel, by decide +kernel, by decide +kernel, fun H1 e => .inl ⟨sq_of (e _ _ a), sq_of (e _ _ b)⟩⟩
        · exact ⟨"tuple", true, false, fun H1 e => .tup (e _ _ a), fun H1 e => .tup (e _ _ b), by decide +kernel, by decide +kernel, by decide +kernel, by decide +kernel, by decide +kernel, fun H1 e => .inr ⟨st_of (e _ _ a), st_of (e _ _ b)⟩⟩
      refine q_when (b := false) (et_test (ev_is (ev_op (ev_var rfl) ev_c rv_isN) rfl)) (fun hb => by cases hb) fun _ H1 e1 => ?_
      refine q_when (b := false) (et_B (ev_isi (ev_var rfl) (fun H' e' => tq H' (e1.trans e')) k1)) (fun hb => by cases hb) fun _ H2 e2 => ?_
      have e02 := e1.trans e2
      refine q_when (b := false) (et_B (ev_isi (ev_var rfl) (fun H' e' => tq H' (e02.trans e')) k2)) (fun hb => by cases hb) fun _ H3 e3 => ?_
      have e03 := e02.trans e3
      refine q_when (b := false) (et_B (ev_isi (ev_var rfl) (fun H' e' => tq H' (e03.trans e')) k3)) (fun hb => by cases hb) fun _ H4 e4 => ?_
      have e04 := e03.trans e4
      refine q_when (b := false) (et_test (ev_is (ev_op (ev_isi (ev_var rfl) (fun H' e' => tq H' (e04.trans e')) k4) (ev_isi (ev_var rfl) (fun H' e' => tp H' (e04.trans e')) k4) (rv_ne rfl)) (by rw [decide_eq_true rfl]; rfl))) (fun hb => by cases hb) fun _ H5 e5 => ?_
      have e05 := e04.trans e5
      refine q_when (b := false) (et_test (ev_is (ev_op (ev_isi (ev_var rfl) (fun H' e' => tq H' (e05.trans e')) k5) (ev_isi (ev_var rfl) (fun H' e' => tp H' (e05.trans e')) k5) (rv_ne rfl)) (by rw [decide_eq_true rfl]; rfl))) (fun hb => by cases hb) fun _ H6 e6 => ?_
      have e06 := e05.trans e6
      have lenp : Ev (tCB (rLenS K) (tCons (tVar 0) tNil)) [some (.ref p), some (.ref q), none] H6 (.int (us.length : Int)) := by
        rcases hsq H6 e06 with ⟨a, b⟩ | ⟨a, b⟩
        · exact ev_len (ev_var rfl) a
        · exact ev_lenT (ev_var rfl) a
      have lenq : ∀ H7, Ex H6 H7 → Ev (tCB (rLenS K) (tCons (tVar 1) tNil)) [some (.ref p), some (.ref q), none] H7 (.int (vs.length : Int)) := fun H7 e7 => by
        rcases hsq H7 (e06.trans e7) with ⟨a, b⟩ | ⟨a, b⟩
        · exact ev_len (ev_var rfl) b
        · exact ev_lenT (ev_var rfl) b
      refine q_when (b := false) (et_test (ev_is (ev_op lenp (lenq H6 (Ex.refl H6)) (rv_ne rfl)) (by rw [hlen, decide_eq_true rfl]; rfl))) (fun hb => by cases hb) fun _ H7 e7 => ?_
      have e07 := e06.trans e7
      refine s_ret (ev_is (ev_all (bs := List.replicate vs.length true) (el_eq (el_lcR1 (n := (vs.length : Int)) (fun _ => true) (fun _ => V.bl true) (ea_cons (lenq H7 e7) ea_nil) (by omega) (fun _ => rfl) (fun _ _ _ _ => et_yes) fun i H8 e8 hi _ => ?_) ?_)) ?_) fun H9 e9 => k H9 (e07.trans e9)
      · have hiv : i < vs.length := by omega
        have hiu : i < us.length := by omega
        have gu := List.getElem?_eq_getElem hiu
        have gv := List.getElem?_eq_getElem hiv
        refine ev_callR (ea_cons (x := us[i]) (ev_op (ev_var rfl) (ev_var rfl) ?_) (ea_cons (x := vs[i]) (ev_op (ev_var rfl) (ev_var rfl) ?_) ea_nil)) fun H9 e9 Q9 q9 => ⟨_, _, rfl, (hall i _ _ gu gv).ex ((e07.trans e8).trans e9), q9⟩
        · rcases hsq H8 (e07.trans e8) with ⟨a, b⟩ | ⟨a, b⟩
          · exact fun H9 e9 Q q => .inl (rv_ixL (i := (i : Int)) a (at_nat gu) H9 e9 Q q)
          · exact fun H9 e9 Q q => .inr (rv_ixT (i := (i : Int)) a (at_nat gu) H9 e9 Q q)
        · rcases hsq H8 (e07.trans e8) with ⟨a, b⟩ | ⟨a, b⟩
          · exact fun H9 e9 Q q => .inl (rv_ixL (i := (i : Int)) b (at_nat gv) H9 e9 Q q)
          · exact fun H9 e9 Q q => .inr (rv_ixT (i := (i : Int)) b (at_nat gv) H9 e9 Q q)
      · rw [given_all (xs := List.replicate vs.length (V.bl true)) (by rw [List.length_replicate]; rfl) (fun i x hx => (List.eq_of_mem_replicate (List.mem_of_getElem? hx)).symm), List.map_replicate]
      · congr 1
        rw [List.all_replicate]
        cases vs.length <;> rfl

end SB

set_option maxHeartbeats 4000000
namespace SB
open PySem PySem.Spec PyProof.Rows L2
open TL (tl)
open Evl
variable {P : Program} {w : World} {K : PySem.W.Frag} {mg : Str → Option Value} {base : Heap}


theorem inV_iv (c : Int) : ∀ l : List Nat, inV (.int c) (l.map iV) = decide (∃ n ∈ l, ((n : Nat) : Int) = c)
  | [] => by simp [inV]
  | a :: r => by
    have e : inV (.int c) ((a :: r).map iV) = (((a : Int) == c) || inV (.int c) (r.map iV)) := rfl
    rw [e, inV_iv c r]
    by_cases h : (a : Int) = c
    · simp [h]
    · have h2 : ((a : Int) == c) = false := by simpa using h
      rw [h2, Bool.false_or]
      apply decide_eq_decide.mpr
      simp [h]
theorem flat_iv (l : List Nat) : (l.map iV).all flatV = true := by
  rw [List.all_map]
  exact List.all_eq_true.mpr fun _ _ => rfl
theorem two_of {l : List Nat} (h : l.length = 2) {r : Nat} (hr : r < 2) : ∀ c : Int, (∃ n ∈ l, ((n : Nat) : Int) = c) ↔ (c = (atN l r : Int) ∨ c = (atN l (1 - r) : Int)) := fun c => by
  match l, h with
  | [a, b], _ =>
    match r, hr with
    | 0, _ =>
      show _ ↔ (c = (a : Int) ∨ c = (b : Int))
      simp [eq_comm]
    | 1, _ =>
      show _ ↔ (c = (b : Int) ∨ c = (a : Int))
      simp [eq_comm, or_comm]
theorem map_setI {l : List Nat} {i x : Nat} : (l.map iV).set i (iV x) = (l.set i x).map iV := by rw [List.map_set]
theorem map_setB {l : List Bool} {i : Nat} {x : Bool} : (l.map V.bl).set i (.bl x) = (l.set i x).map V.bl := by rw [List.map_set]
theorem A_rc (A : SA) : A.rc ∈ A.mut := by simp [SA.mut]
theorem A_ld (A : SA) : A.ld ∈ A.mut := by simp [SA.mut]
theorem A_ns (A : SA) : A.ns ∈ A.mut := by simp [SA.mut]
theorem A_bl (A : SA) : A.bl ∈ A.mut := by simp [SA.mut]

theorem ok_Situation_try_move (T : Txt K mg) : FnR P w K mg base (L2.CX P w) 1 (He.ma K (He.ga K "Situation") "try_move") (spSM (He.ga K "Situation") FMove) := by
  obtain ⟨fd, F⟩ := T.F_Situation_try_move
  have B : Binds K fd P_Situation_try_move [] := F.bindsN fun _ _ _ _ _ _ us hl => match us, hl with | [_, _, _], _ => rfl
  refine fnR_of F B (F.ok sc_Situation_try_move (fun vs H Q E h => ?_) (fun cdv A outer s H vs Q E hr h => ?_))
  · obtain ⟨A, P, S, us, v, S', rfl, hI, hP, hS, hF, k⟩ := h; obtain ⟨r, w, d, hr, hw, rfl, _⟩ := hF; rfl
  · have hu := hu_of hr
    obtain ⟨A, P, S, us, v, S', rfl, hI, hP, hS, hF, k⟩ := h
    obtain ⟨r, w, d, hr, hw, rfl, rfl, rfl⟩ := hF
    refine ⟨_, (pss_cons (ps_set (i := 3) sc_Situation_try_move.nd rfl (by first | exact Or.inl rfl | exact Or.inr rfl) (pe_op op_add (pe_ix ix_list (pe_fld (pv 0) rfl) (pv 1) (fun _ _ => rfl)) (pv 2)))
        (pss_cons (ps_if (pw_or (pt_cmpR op_lt (pv 3) pe_int (nomark _)) (pw_or (pt_cmpR op_ge (pv 3) (pe_callB call_len_seq (by rfl) T.b_len (by decide +kernel) (pa_cons (pe_fld (pv 0) rfl) pa_nil)) (nomark _)) (pw_or1 (pt_cmpR op_in_seq (pv 3) (pe_fld (pv 0) rfl) (by rfl))))).pt (pss_one (ps_ret pe_bl)) pss_nil)
        (pss_cons (ps_asg (pv 3) (pg_sub (pe_fld (pv 0) rfl) (pv 1) set_list))
        (pss_one (ps_ret pe_bl))))), ?_⟩
    have hr0 : r < S.cs.length := by rw [hS.c2]; exact hr
    have hb : stuckM S r w = (decide ((atN S.cs r : Int) + d < 0) || (decide ((S.bx.length : Int) ≤ (atN S.cs r : Int) + d) || inV (.int ((atN S.cs r : Int) + d)) (S.cs.map iV))) := by
      have hin : inV (.int ((atN S.cs r : Int) + d)) (S.cs.map iV) = decide ((atN S.cs r : Int) + d = (atN S.cs r : Int) ∨ (atN S.cs r : Int) + d = (atN S.cs (1 - r) : Int)) := by
        rw [inV_iv]
        exact decide_eq_decide.mpr (two_of hS.c2 hr _)
      rw [hin]
      have hx := hS.cl r hr
      rcases hw with ⟨rfl, rfl⟩ | ⟨rfl, rfl⟩
      · unfold stuckM
        rw [if_pos rfl, ← Bool.decide_or, ← Bool.decide_or, ← Bool.decide_or]
        apply decide_eq_decide.mpr
        omega
      · unfold stuckM
        rw [if_neg (by decide +kernel), if_pos rfl, ← Bool.decide_or, ← Bool.decide_or, ← Bool.decide_or]
        apply decide_eq_decide.mpr
        omega
    refine q_asg (v := .int ((atN S.cs r : Int) + d)) (ev_op (ev_op (ev_fld (ev_var rfl) hI.ob T.c_Situation T.n_Situation_robot_cells rfl) (ev_var rfl) (rv_ixL (i := (r : Int)) (sq_of hI.cs) (at_nat' (iv_at hr0)))) (ev_var rfl) rv_I0) fun H1 e1 => ?_
    have hI1 := hI.ex e1
    refine q_when (b := stuckM S r w) (et_is (et_or (et_test (ev_op (ev_var rfl) ev_c rv_I0)) fun _ => et_or (et_test (ev_op (ev_var rfl) (ev_len (ev_fld (ev_var rfl) hI1.ob T.c_Situation T.n_Situation_boxes rfl) (sq_of hI1.bx)) rv_I0)) fun _ => et_test (ev_op (ev_var rfl) (ev_fld (ev_var rfl) hI1.ob T.c_Situation T.n_Situation_robot_cells rfl) (rv_isL (sq_of hI1.cs) rfl (flat_iv _)))) ?_) (fun hb2 H2 e2 => ?_) (fun hb2 H2 e2 => ?_)
    · rw [hb, List.length_map]
    · rw [hb2] at k
      exact s_ret ev_c fun H3 e3 => k H3 (ExB.of ((e1.trans e2).trans e3)) (hI1.ex (e2.trans e3))
    · rw [hb2] at k
      obtain ⟨c', c1, c2, c3, c4⟩ := moved_lr (S := S) (r := r) (hw.imp (·.1) (·.1)) hb2
      have ed : (atN S.cs r : Int) + d = (c' : Int) := by
        rw [c2]
        rcases hw with ⟨rfl, rfl⟩ | ⟨rfl, rfl⟩
        · rw [if_neg (by decide +kernel)]
        · rw [if_pos rfl]
      have hI2 := hI1.ex e2
      rw [ed]
      refine q_setL (j := r) hI2.cs (v := iV c') (ev_var rfl) (ev_fld (ev_var rfl) hI2.ob T.c_Situation T.n_Situation_robot_cells rfl) (ev_var rfl) (by rw [List.length_map]; exact hr0) fun H3 e3 => ?_
      have hI3 := hI2.ex e3
      refine s_ret ev_c fun H4 e4 => k H4 (ExB.trans ((ExB.of ((e1.trans e2).trans e3)).put (A_rc A)) (ExB.of e4)) ?_
      refine SitIn.ex (hI3.to (S' := movedM S r w) (ExB.put (ExB.refl _ _) (A_rc A)) ?_ ?_ ?_ ?_) e4
      · rw [upd_same, c1, map_setI]
      · rw [upd_ne (Ne.symm hI.n1), c3]
        exact hI3.hs
      · rw [upd_ne (Ne.symm hI.n2), (moved_ok hS hr hb2).2]
        exact hI3.nx
      · rw [upd_ne (Ne.symm hI.n3), c4]
        exact hI3.bx

theorem ok_Situation_try_pick (T : Txt K mg) : FnR P w K mg base (L2.CX P w) 1 (He.ma K (He.ga K "Situation") "try_pick") (spSM (He.ga K "Situation") (FDo "pick")) := by
  obtain ⟨fd, F⟩ := T.F_Situation_try_pick
  have B : Binds K fd P_Situation_try_pick [] := F.bindsN fun _ _ _ _ _ _ us hl => match us, hl with | [_, _], _ => rfl
  refine fnR_of F B (F.ok sc_Situation_try_pick (fun vs H Q E h => ?_) (fun cdv A outer s H vs Q E hr h => ?_))
  · obtain ⟨A, P, S, us, v, S', rfl, hI, hP, hS, hF, k⟩ := h; obtain ⟨r, hr, rfl, _⟩ := hF; rfl
  · have hu := hu_of hr
    obtain ⟨A, P, S, us, v, S', rfl, hI, hP, hS, hF, k⟩ := h
    obtain ⟨r, hr, rfl, rfl, rfl⟩ := hF
    refine ⟨_, (pss_cons (ps_set (i := 2) sc_Situation_try_pick.nd rfl (by first | exact Or.inl rfl | exact Or.inr rfl) (pe_ix ix_list (pe_fld (pv 0) rfl) (pv 1) (fun _ _ => rfl)))
        (pss_cons (ps_if (pw_or (pt_val (pe_ix ix_list (pe_fld (pv 0) rfl) (pv 1) (fun _ _ => rfl))) (pw_or1 (pt_cmpR op_eq (pe_ix ix_list (pe_fld (pv 0) rfl) (pv 2) (fun _ _ => rfl)) pe_int (nomark _)))).pt (pss_one (ps_ret pe_bl)) pss_nil)
        (pss_cons (ps_asg pe_bl (pg_sub (pe_fld (pv 0) rfl) (pv 1) set_list))
        (pss_cons (ps_augS (pe_fld (pv 0) rfl) (pv 2) get_listN pe_int ip_sub set_list)
        (pss_one (ps_ret pe_bl)))))), ?_⟩
    have hr0 : r < S.cs.length := by rw [hS.c2]; exact hr
    have hrh : r < S.hs.length := by rw [hS.h2]; exact hr
    have hc := hS.cl r hr
    refine q_asg (v := iV (atN S.cs r)) (ev_op (ev_fld (ev_var rfl) hI.ob T.c_Situation T.n_Situation_robot_cells rfl) (ev_var rfl) (rv_ixL (i := (r : Int)) (sq_of hI.cs) (at_nat' (iv_at hr0)))) fun H1 e1 => ?_
    have hI1 := hI.ex e1
    refine q_when (b := stuckM S r "pick") (et_is (et_or (et_B (ev_op (ev_fld (ev_var rfl) hI1.ob T.c_Situation T.n_Situation_loaded rfl) (ev_var rfl) (rv_ixL (i := (r : Int)) (sq_of hI1.hs) (at_nat' (bv_at hrh))))) fun _ => et_test (ev_is (ev_op (ev_op (ev_fld (ev_var rfl) hI1.ob T.c_Situation T.n_Situation_boxes rfl) (ev_var rfl) (rv_ixL (i := ((atN S.cs r : Nat) : Int)) (sq_of hI1.bx) (at_nat' (iv_at hc)))) ev_c (rv_eq rfl)) (congrArg V.bl (a₂ := decide (atN S.bx (atN S.cs r) = 0)) ?_))) ?_) (fun hb2 H2 e2 => ?_) (fun hb2 H2 e2 => ?_)
    · apply decide_eq_decide.mpr
      constructor
      · intro h
        have := V.int.inj h
        omega
      · intro h
        rw [h]
        rfl
    · rw [stuck_pick]
    · rw [hb2] at k
      exact s_ret ev_c fun H3 e3 => k H3 (ExB.of ((e1.trans e2).trans e3)) (hI1.ex (e2.trans e3))
    · rw [hb2] at k
      have hI2 := hI1.ex e2
      have hst := hb2
      rw [stuck_pick] at hst
      simp only [Bool.or_eq_false_iff, decide_eq_false_iff_not] at hst
      refine q_setL (j := r) hI2.hs (v := .bl true) ev_c (ev_fld (ev_var rfl) hI2.ob T.c_Situation T.n_Situation_loaded rfl) (ev_var rfl) (by rw [List.length_map]; exact hrh) fun H3 e3 => ?_
      have hI3 := hI2.ex e3
      have hI4 : SitIn (He.ga K "Situation") (upd H3 A.ld (.lst ((S.hs.map V.bl).set r (.bl true)))) A P { S with hs := S.hs.set r true } := hI3.to (ExB.put (ExB.refl _ _) (A_ld A)) (by rw [upd_ne hI.n1]; exact hI3.cs) (by rw [upd_same, map_setB]) (by rw [upd_ne (Ne.symm hI.n4)]; exact hI3.nx) (by rw [upd_ne (Ne.symm hI.n5)]; exact hI3.bx)
      generalize hH4 : upd H3 A.ld (.lst ((S.hs.map V.bl).set r (.bl true))) = H4 at hI4 ⊢
      have x4 : ExB A.mut H3 H4 := by rw [← hH4]; exact ExB.put (ExB.refl _ _) (A_ld A)
      refine ⟨_, rfl, _, _, _, _, _, rfl, hI4.ob, T.c_Situation, T.n_Situation_boxes, rfl, _, rfl, A.bl, _, atN S.cs r, iV (atN S.bx (atN S.cs r)), rfl, rfl, sq_of hI4.bx, iv_at hc, (atN S.bx (atN S.cs r) : Int), 1, rfl, rfl, A.bl, _, _, atN S.cs r, rfl, rfl, hI4.bx, ixN_nat (by rw [List.length_map]; exact hc), ?_⟩
      show tRet (tC (V.bl true)) { nx := fun _ H' => Q .non H', rt := Q } [some (.ref A.x), some (.int r), some (iV (atN S.cs r))] _
      refine s_ret ev_c fun H5 e5 => k H5 (ExB.trans (ExB.trans ((ExB.of ((e1.trans e2).trans e3)).trans x4) (ExB.put (ExB.refl _ _) (A_bl A))) (ExB.of e5)) ?_
      refine SitIn.ex (hI4.to (S' := movedM S r "pick") (ExB.put (ExB.refl _ _) (A_bl A)) ?_ ?_ ?_ ?_) e5
      · rw [upd_ne hI.n3, moved_pick]
        exact hI4.cs
      · rw [upd_ne hI.n5, moved_pick]
        exact hI4.hs
      · rw [upd_ne hI.n6, moved_pick]
        exact hI4.nx
      · rw [upd_same, moved_pick]
        have e0 : ((atN S.bx (atN S.cs r) : Int) - 1) = ((atN S.bx (atN S.cs r) - 1 : Nat) : Int) := by omega
        show some (HO.lst (List.set _ _ (V.int ((atN S.bx (atN S.cs r) : Int) - 1)))) = _
        rw [e0]
        exact congrArg some (congrArg HO.lst map_setI)

theorem ok_Situation_try_put (T : Txt K mg) : FnR P w K mg base (L2.CX P w) 1 (He.ma K (He.ga K "Situation") "try_put") (spSM (He.ga K "Situation") (FDo "put")) := by
  obtain ⟨fd, F⟩ := T.F_Situation_try_put
  have B : Binds K fd P_Situation_try_put [] := F.bindsN fun _ _ _ _ _ _ us hl => match us, hl with | [_, _], _ => rfl
  refine fnR_of F B (F.ok sc_Situation_try_put (fun vs H Q E h => ?_) (fun cdv A outer s H vs Q E hr h => ?_))
  · obtain ⟨A, P, S, us, v, S', rfl, hI, hP, hS, hF, k⟩ := h; obtain ⟨r, hr, rfl, _⟩ := hF; rfl
  · have hu := hu_of hr
    obtain ⟨A, P, S, us, v, S', rfl, hI, hP, hS, hF, k⟩ := h
    obtain ⟨r, hr, rfl, rfl, rfl⟩ := hF
    refine ⟨_, (pss_cons (ps_set (i := 2) sc_Situation_try_put.nd rfl (by first | exact Or.inl rfl | exact Or.inr rfl) (pe_ix ix_list (pe_fld (pv 0) rfl) (pv 1) (fun _ _ => rfl)))
        (pss_cons (ps_if (pw_or (pt_not (pt_val (pe_ix ix_list (pe_fld (pv 0) rfl) (pv 1) (fun _ _ => rfl)))) (pw_or1 (pt_cmpR op_eq (pe_ix ix_list (pe_fld (pv 0) rfl) (pv 2) (fun _ _ => rfl)) (pe_gi T.v_MOST_BOXES) (nomark _)))).pt (pss_one (ps_ret pe_bl)) pss_nil)
        (pss_cons (ps_asg pe_bl (pg_sub (pe_fld (pv 0) rfl) (pv 1) set_list))
        (pss_cons (ps_augS (pe_fld (pv 0) rfl) (pv 2) get_listN pe_int ip_add set_list)
        (pss_one (ps_ret pe_bl)))))), ?_⟩
    have hr0 : r < S.cs.length := by rw [hS.c2]; exact hr
    have hrh : r < S.hs.length := by rw [hS.h2]; exact hr
    have hc := hS.cl r hr
    have h3 := hS.b3 (atN S.cs r)
    refine q_asg (v := iV (atN S.cs r)) (ev_op (ev_fld (ev_var rfl) hI.ob T.c_Situation T.n_Situation_robot_cells rfl) (ev_var rfl) (rv_ixL (i := (r : Int)) (sq_of hI.cs) (at_nat' (iv_at hr0)))) fun H1 e1 => ?_
    have hI1 := hI.ex e1
    refine q_when (b := stuckM S r "put") (et_is (et_or (et_not (et_B (ev_op (ev_fld (ev_var rfl) hI1.ob T.c_Situation T.n_Situation_loaded rfl) (ev_var rfl) (rv_ixL (i := (r : Int)) (sq_of hI1.hs) (at_nat' (bv_at hrh)))))) fun _ => et_test (ev_is (ev_op (ev_op (ev_fld (ev_var rfl) hI1.ob T.c_Situation T.n_Situation_boxes rfl) (ev_var rfl) (rv_ixL (i := ((atN S.cs r : Nat) : Int)) (sq_of hI1.bx) (at_nat' (iv_at hc)))) ev_c (rv_eq rfl)) (congrArg V.bl (a₂ := decide (2 < atN S.bx (atN S.cs r))) ?_))) ?_) (fun hb2 H2 e2 => ?_) (fun hb2 H2 e2 => ?_)
    · apply decide_eq_decide.mpr
      constructor
      · intro h
        have := V.int.inj h
        omega
      · intro h
        rw [show atN S.bx (atN S.cs r) = 3 by omega]
        rfl
    · rw [stuck_put]
    · rw [hb2] at k
      exact s_ret ev_c fun H3 e3 => k H3 (ExB.of ((e1.trans e2).trans e3)) (hI1.ex (e2.trans e3))
    · rw [hb2] at k
      have hI2 := hI1.ex e2
      have hst := hb2
      rw [stuck_put] at hst
      simp only [Bool.or_eq_false_iff, decide_eq_false_iff_not] at hst
      refine q_setL (j := r) hI2.hs (v := .bl false) ev_c (ev_fld (ev_var rfl) hI2.ob T.c_Situation T.n_Situation_loaded rfl) (ev_var rfl) (by rw [List.length_map]; exact hrh) fun H3 e3 => ?_
      have hI3 := hI2.ex e3
      have hI4 : SitIn (He.ga K "Situation") (upd H3 A.ld (.lst ((S.hs.map V.bl).set r (.bl false)))) A P { S with hs := S.hs.set r false } := hI3.to (ExB.put (ExB.refl _ _) (A_ld A)) (by rw [upd_ne hI.n1]; exact hI3.cs) (by rw [upd_same, map_setB]) (by rw [upd_ne (Ne.symm hI.n4)]; exact hI3.nx) (by rw [upd_ne (Ne.symm hI.n5)]; exact hI3.bx)
      generalize hH4 : upd H3 A.ld (.lst ((S.hs.map V.bl).set r (.bl false))) = H4 at hI4 ⊢
      have x4 : ExB A.mut H3 H4 := by rw [← hH4]; exact ExB.put (ExB.refl _ _) (A_ld A)
      refine ⟨_, rfl, _, _, _, _, _, rfl, hI4.ob, T.c_Situation, T.n_Situation_boxes, rfl, _, rfl, A.bl, _, atN S.cs r, iV (atN S.bx (atN S.cs r)), rfl, rfl, sq_of hI4.bx, iv_at hc, (atN S.bx (atN S.cs r) : Int), 1, rfl, rfl, A.bl, _, _, atN S.cs r, rfl, rfl, hI4.bx, ixN_nat (by rw [List.length_map]; exact hc), ?_⟩
      show tRet (tC (V.bl true)) { nx := fun _ H' => Q .non H', rt := Q } [some (.ref A.x), some (.int r), some (iV (atN S.cs r))] _
      refine s_ret ev_c fun H5 e5 => k H5 (ExB.trans (ExB.trans ((ExB.of ((e1.trans e2).trans e3)).trans x4) (ExB.put (ExB.refl _ _) (A_bl A))) (ExB.of e5)) ?_
      refine SitIn.ex (hI4.to (S' := movedM S r "put") (ExB.put (ExB.refl _ _) (A_bl A)) ?_ ?_ ?_ ?_) e5
      · rw [upd_ne hI.n3, moved_put]
        exact hI4.cs
      · rw [upd_ne hI.n5, moved_put]
        exact hI4.hs
      · rw [upd_ne hI.n6, moved_put]
        exact hI4.nx
      · rw [upd_same, moved_put]
        exact congrArg some (congrArg HO.lst map_setI)

theorem ok_Situation_is_jumping (T : Txt K mg) : FnR P w K mg base (L2.CX P w) 1 (He.ma K (He.ga K "Situation") "is_jumping") (spSM (He.ga K "Situation") FJump) := by
  obtain ⟨fd, F⟩ := T.F_Situation_is_jumping
  have B : Binds K fd P_Situation_is_jumping [] := F.bindsN fun _ _ _ _ _ _ us hl => match us, hl with | [_, _, _], _ => rfl
  refine fnR_of F B (F.ok sc_Situation_is_jumping (fun vs H Q E h => ?_) (fun cdv A outer s H vs Q E hr h => ?_))
  · obtain ⟨A, P, S, us, v, S', rfl, hI, hP, hS, hF, k⟩ := h; obtain ⟨r, w, hr, hw, rfl, _⟩ := hF; rfl
  · have hu := hu_of hr
    obtain ⟨A, P, S, us, v, S', rfl, hI, hP, hS, hF, k⟩ := h
    obtain ⟨r, w, hr, hw, rfl, rfl, hSS⟩ := hF
    have hSS := hSS.symm
    subst hSS
    refine ⟨_, (pss_cons (ps_if (pt_cmpR op_eq (pv 2) pe_str (nomark _)) (pss_one (ps_ret (pe_cmpR op_eq (pe_ix ix_list (pe_fld (pv 0) rfl) (pe_ix ix_list (pe_fld (pv 0) rfl) (pv 1) (fun _ _ => rfl)) (fun _ _ => rfl)) pe_int (nomark _)))) pss_nil)
        (pss_cons (ps_if (pt_cmpR op_eq (pv 2) pe_str (nomark _)) (pss_one (ps_ret (pe_ix ix_list (pe_fld (pv 0) rfl) (pv 1) (fun _ _ => rfl)))) pss_nil)
        (pss_one (ps_ret pe_bl)))), ?_⟩
    have hr0 : r < S.cs.length := by rw [hS.c2]; exact hr
    have hrh : r < S.hs.length := by rw [hS.h2]; exact hr
    have hc := hS.cl r hr
    have hw3 : w = "goto" ∨ w = "empty" ∨ w = "held" := by simpa [jumps] using hw
    refine q_when (b := decide (w = "empty")) (et_test (ev_is (ev_op (ev_var rfl) ev_c (rv_eq rfl)) (congrArg V.bl (by rw [str_eq])))) (fun hb H1 e1 => ?_) (fun hb H1 e1 => ?_)
    · have hw1 := of_decide_eq_true hb
      subst hw1
      have hI1 := hI.ex e1
      refine s_ret (ev_is (ev_op (ev_op (ev_fld (ev_var rfl) hI1.ob T.c_Situation T.n_Situation_boxes rfl) (ev_op (ev_fld (ev_var rfl) hI1.ob T.c_Situation T.n_Situation_robot_cells rfl) (ev_var rfl) (rv_ixL (i := (r : Int)) (sq_of hI1.cs) (at_nat' (iv_at hr0)))) (rv_ixL (i := ((atN S.cs r : Nat) : Int)) (sq_of hI1.bx) (at_nat' (iv_at hc)))) ev_c (rv_eq rfl)) (congrArg V.bl ?_)) fun H2 e2 => k H2 (ExB.of (e1.trans e2)) (hI1.ex e2)
      unfold jumpM
      rw [show decide (("empty" : Str) = "goto") = false from by decide +kernel, show decide (("empty" : Str) = "held") = false from by decide +kernel, decide_eq_true rfl, Bool.false_or, Bool.true_and, Bool.false_and, Bool.or_false]
      apply decide_eq_decide.mpr
      constructor
      · intro h
        have := V.int.inj h
        omega
      · intro h
        rw [h]
        rfl
    have n1 : w ≠ "empty" := of_decide_eq_false hb
    refine q_when (b := decide (w = "held")) (et_test (ev_is (ev_op (ev_var rfl) ev_c (rv_eq rfl)) (congrArg V.bl (by rw [str_eq])))) (fun hb2 H2 e2 => ?_) (fun hb2 H2 e2 => ?_)
    · have hw1 := of_decide_eq_true hb2
      subst hw1
      have hI2 := hI.ex (e1.trans e2)
      refine s_ret (ev_is (ev_op (ev_fld (ev_var rfl) hI2.ob T.c_Situation T.n_Situation_loaded rfl) (ev_var rfl) (rv_ixL (i := (r : Int)) (sq_of hI2.hs) (at_nat' (bv_at hrh)))) (congrArg V.bl ?_)) fun H3 e3 => k H3 (ExB.of ((e1.trans e2).trans e3)) (hI2.ex e3)
      unfold jumpM
      rw [show decide (("held" : Str) = "goto") = false from by decide +kernel, show decide (("held" : Str) = "empty") = false from by decide +kernel, decide_eq_true rfl, Bool.false_or, Bool.true_and, Bool.false_and, Bool.false_or]
    have n2 : w ≠ "held" := of_decide_eq_false hb2
    have hg : w = "goto" := by
      rcases hw3 with h | h | h
      · exact h
      · exact absurd h n1
      · exact absurd h n2
    subst hg
    refine s_ret (ev_is ev_c (congrArg V.bl ?_)) fun H3 e3 => k H3 (ExB.of ((e1.trans e2).trans e3)) (hI.ex ((e1.trans e2).trans e3))
    unfold jumpM
    rw [decide_eq_true rfl]
    rfl

theorem ok_Situation_try_step (T : Txt K mg) : FnR P w K mg base (L2.CX P w) 2 (He.ma K (He.ga K "Situation") "try_step") (spSM (He.ga K "Situation") FTry) := by
  have G_Situation_try_move := ok_Situation_try_move (P := P) (w := w) (base := base) T
  have G_Situation_try_pick := ok_Situation_try_pick (P := P) (w := w) (base := base) T
  have G_Situation_try_put := ok_Situation_try_put (P := P) (w := w) (base := base) T
  obtain ⟨fd, F⟩ := T.F_Situation_try_step
  have B : Binds K fd P_Situation_try_step [] := F.bindsN fun _ _ _ _ _ _ us hl => match us, hl with | [_, _, _], _ => rfl
  refine fnR_of F B (F.ok sc_Situation_try_step (fun vs H Q E h => ?_) (fun cdv A outer s H vs Q E hr h => ?_))
  · obtain ⟨A, P, S, us, v, S', rfl, hI, hP, hS, hF, k⟩ := h; obtain ⟨r, w, hr, hw, rfl, _⟩ := hF; rfl
  · have hu := hu_of hr
    obtain ⟨A, P, S, us, v, S', rfl, hI, hP, hS, hF, k⟩ := h
    obtain ⟨r, w, hr2, hw, rfl, rfl, rfl⟩ := hF
    refine ⟨_, (pss_cons (ps_if (pt_cmpR op_eq (pv 2) pe_str (nomark _)) (pss_one (ps_ret (pe_methR (pv 0) T.c_Situation T.m_Situation_try_move G_Situation_try_move (hr.mono (by decide)) px (pa_cons (pv 1) (pa_cons (pe_un un_neg pe_int) pa_nil))))) pss_nil)
        (pss_cons (ps_if (pt_cmpR op_eq (pv 2) pe_str (nomark _)) (pss_one (ps_ret (pe_methR (pv 0) T.c_Situation T.m_Situation_try_move G_Situation_try_move (hr.mono (by decide)) px (pa_cons (pv 1) (pa_cons pe_int pa_nil))))) pss_nil)
        (pss_cons (ps_if (pt_cmpR op_eq (pv 2) pe_str (nomark _)) (pss_one (ps_ret (pe_methR (pv 0) T.c_Situation T.m_Situation_try_pick G_Situation_try_pick (hr.mono (by decide)) px (pa_cons (pv 1) pa_nil)))) pss_nil)
        (pss_cons (ps_if (pt_cmpR op_eq (pv 2) pe_str (nomark _)) (pss_one (ps_ret (pe_methR (pv 0) T.c_Situation T.m_Situation_try_put G_Situation_try_put (hr.mono (by decide)) px (pa_cons (pv 1) pa_nil)))) pss_nil)
        (pss_one (ps_ret pe_bl)))))), ?_⟩
    have eqw : ∀ {H1 : Hp} {z : Str} {σ : L2.St}, σ[2]? = some (some (.str w)) → EvT (tTest (tOp rEq (tVar 2) (tC (.str z)))) σ H1 (decide (w = z)) := fun h => et_test (ev_is (ev_op (ev_var h) ev_c (rv_eq rfl)) (congrArg V.bl (by rw [str_eq])))
    refine q_when (eqw rfl) (fun hb H1 e1 => ?_) (fun hb H1 e1 => ?_)
    · have hw1 := of_decide_eq_true hb
      subst hw1
      exact s_retH ⟨_, rfl, A.x, A.dx, _, rfl, (hI.ex e1).ob, rfl, _, rfl, _, rfl, A, P, S, _, _, _, rfl, hI.ex e1, hP, hS, ⟨r, "left", -1, hr2, .inl ⟨rfl, rfl⟩, rfl, rfl, rfl⟩, fun H' e h => k H' (ExB.trans (ExB.of e1) e) h⟩
    refine q_when (eqw rfl) (fun hb2 H2 e2 => ?_) (fun hb2 H2 e2 => ?_)
    · have hw1 := of_decide_eq_true hb2
      subst hw1
      exact s_retH ⟨_, rfl, A.x, A.dx, _, rfl, (hI.ex (e1.trans e2)).ob, rfl, _, rfl, A, P, S, _, _, _, rfl, hI.ex (e1.trans e2), hP, hS, ⟨r, "right", 1, hr2, .inr ⟨rfl, rfl⟩, rfl, rfl, rfl⟩, fun H' e h => k H' (ExB.trans (ExB.of (e1.trans e2)) e) h⟩
    refine q_when (eqw rfl) (fun hb3 H3 e3 => ?_) (fun hb3 H3 e3 => ?_)
    · have hw1 := of_decide_eq_true hb3
      subst hw1
      have e03 := (e1.trans e2).trans e3
      exact s_retH ⟨_, rfl, A.x, A.dx, _, rfl, (hI.ex e03).ob, rfl, _, rfl, A, P, S, _, _, _, rfl, hI.ex e03, hP, hS, ⟨r, hr2, rfl, rfl, rfl⟩, fun H' e h => k H' (ExB.trans (ExB.of e03) e) h⟩
    refine q_when (eqw rfl) (fun hb4 H4 e4 => ?_) (fun hb4 H4 e4 => ?_)
    · have hw1 := of_decide_eq_true hb4
      subst hw1
      have e04 := ((e1.trans e2).trans e3).trans e4
      exact s_retH ⟨_, rfl, A.x, A.dx, _, rfl, (hI.ex e04).ob, rfl, _, rfl, A, P, S, _, _, _, rfl, hI.ex e04, hP, hS, ⟨r, hr2, rfl, rfl, rfl⟩, fun H' e h => k H' (ExB.trans (ExB.of e04) e) h⟩
    have e04 := ((e1.trans e2).trans e3).trans e4
    have nlr : ¬ (w = "left" ∨ w = "right") := fun h => h.elim (of_decide_eq_false hb) (of_decide_eq_false hb2)
    have hs := stuck_other (S := S) (r := r) nlr (of_decide_eq_false hb3) (of_decide_eq_false hb4)
    have hm := moved_other (S := S) (r := r) nlr (of_decide_eq_false hb3) (of_decide_eq_false hb4)
    rw [hs] at k
    exact s_ret ev_c fun H5 e5 => k H5 (ExB.of (e04.trans e5)) (by
      show SitIn _ H5 A P (movedM S r w)
      rw [hm]
      exact hI.ex (e04.trans e5))

theorem ok_Situation_do_step (T : Txt K mg) : FnR P w K mg base (L2.CX P w) 3 (He.ma K (He.ga K "Situation") "do_step") (spSM (He.ga K "Situation") FStep) := by
  have G_Situation_try_step := ok_Situation_try_step (P := P) (w := w) (base := base) T
  have G_Situation_is_jumping := ok_Situation_is_jumping (P := P) (w := w) (base := base) T
  obtain ⟨fd, F⟩ := T.F_Situation_do_step
  have B : Binds K fd P_Situation_do_step [] := F.bindsN fun _ _ _ _ _ _ us hl => match us, hl with | [_, _], _ => rfl
  refine fnR_of F B (F.ok sc_Situation_do_step (fun vs H Q E h => ?_) (fun cdv A outer s H vs Q E hr h => ?_))
  · obtain ⟨A, P, S, us, v, S', rfl, hI, hP, hS, hF, k⟩ := h; obtain ⟨r, hr, rfl, _⟩ := hF; rfl
  · have hu := hu_of hr
    obtain ⟨A, P, S, us, v, S', rfl, hI, hP, hS, hF, k⟩ := h
    obtain ⟨r, hr2, rfl, rfl, rfl⟩ := hF
    refine ⟨_, (pss_cons (ps_set (i := 2) sc_Situation_do_step.nd rfl (by first | exact Or.inl rfl | exact Or.inr rfl) (pe_ix ix_tup (pe_fld (pv 0) rfl) (pv 1) (fun _ _ => rfl)))
        (pss_cons (ps_set (i := 3) sc_Situation_do_step.nd rfl (by first | exact Or.inl rfl | exact Or.inr rfl) (pe_ix ix_list (pe_fld (pv 0) rfl) (pv 1) (fun _ _ => rfl)))
        (pss_cons (ps_asg (pe_ix ix_list (pv 2) (pv 3) (fun _ _ => rfl)) (pg_tup rfl (pgs_cons (pg_name (i := 4) sc_Situation_do_step.nd rfl (by first | exact Or.inl rfl | exact Or.inr rfl)) (pgs_cons (pg_name (i := 5) sc_Situation_do_step.nd rfl (by first | exact Or.inl rfl | exact Or.inr rfl)) pgs_nil))))
        (pss_cons (ps_if (pt_not (pt_val (pe_methR (pv 0) T.c_Situation T.m_Situation_try_step G_Situation_try_step (hr.mono (by decide)) px (pa_cons (pv 1) (pa_cons (pv 4) pa_nil))))) (pss_one (ps_ret (pe_gs T.v_BLOCKED))) pss_nil)
        (pss_cons (ps_if (pw_and (pt_cmpR op_in_seq (pv 4) (pe_gr T.g_JUMPS) (by rfl)) (pw_and1 (pt_val (pe_methR (pv 0) T.c_Situation T.m_Situation_is_jumping G_Situation_is_jumping (hr.mono (by decide)) px (pa_cons (pv 1) (pa_cons (pv 4) pa_nil)))))).pt (pss_one (ps_asg (pv 5) (pg_sub (pe_fld (pv 0) rfl) (pv 1) set_list))) (pss_one (ps_asg (pe_op op_modN (pe_op op_add (pv 3) pe_int) (pe_callB call_len_seq (by rfl) T.b_len (by decide +kernel) (pa_cons (pv 2) pa_nil))) (pg_sub (pe_fld (pv 0) rfl) (pv 1) set_list))))
        (pss_one (ps_ret (pv 4)))))))), ?_⟩
    have hrn : r < S.ns.length := by rw [hS.n2]; exact hr2
    obtain ⟨sA, ws, g1, g2, g3⟩ := hI.steps hr2
    have hst := step_get hS hr2
    have hsl := hP.ls r
    have hmem := step_mem hS hr2
    obtain ⟨v, hv, b, rfl, hb⟩ : ∃ v, ws[atN S.ns r]? = some v ∧ ∃ b, v = .ref b ∧ H b = some (.tup [.str (stepAt P S r).1, lkVs (stepAt P S r)]) := by
      have : ∀ {ws : List V} {l : List Lk} {i : Nat} {s : Lk}, Paired (fun v (s : Lk) => ∃ a, v = V.ref a ∧ H a = some (.tup [.str s.1, lkVs s])) ws l → l[i]? = some s → ∃ v, ws[i]? = some v ∧ ∃ a, v = V.ref a ∧ H a = some (.tup [.str s.1, lkVs s]) := by
        intro ws l i s pr
        induction pr generalizing i with
        | nil => intro h; simp at h
        | cons r t ih =>
          intro h
          cases i with
          | zero => simp at h; subst h; exact ⟨_, rfl, r⟩
          | succ i => simp at h; simpa using ih h
      exact this g3 hst
    have hlen : ws.length = (lns P r).length := Paired.length g3
    generalize hs : stepAt P S r = s at hb hmem
    obtain ⟨w, g⟩ := s
    have hw := hsl.cmd _ hmem
    have hway := hsl.way _ hmem
    have hlo := hsl.lo
    refine q_asg (v := .ref sA) (ev_op (ev_fld (ev_var rfl) hI.ob T.c_Situation T.n_Situation_steps rfl) (ev_var rfl) (rv_ixT (i := (r : Int)) (st_of hI.ss) (at_nat' g1))) fun H1 e1 => ?_
    have hI1 := hI.ex e1
    refine q_asg (v := iV (atN S.ns r)) (ev_op (ev_fld (ev_var rfl) hI1.ob T.c_Situation T.n_Situation_next_steps rfl) (ev_var rfl) (rv_ixL (i := (r : Int)) (sq_of hI1.nx) (at_nat' (iv_at hrn)))) fun H2 e2 => ?_
    have e12 := e1.trans e2
    refine ⟨_, rfl, _, rfl, sA, ws, _, _, rfl, rfl, sq_of (e12 _ _ g2), at_nat' hv, b, _, rfl, st_of (e12 _ _ hb), rfl, _, _, rfl, _, _, rfl, rfl, ?_⟩
    have hI2 := hI.ex e12
    refine ⟨_, rfl, A.x, A.dx, _, rfl, hI2.ob, rfl, _, rfl, _, rfl, A, P, S, _, _, _, rfl, hI2, hP, hS, ⟨r, w, hr2, hw, rfl, rfl, rfl⟩, fun H3 x3 hI3 => ⟨_, rfl, ?_⟩⟩
    have x03 : ExB A.mut H H3 := ExB.trans (ExB.of e12) x3
    cases hq : stuckM S r w with
    | true =>
      have e : actM P S r = (("blocked" : Str), S) := by
        unfold actM
        rw [hs, if_pos hq]
      rw [e] at k
      rw [hq] at hI3
      refine (if_pos rfl).mpr ?_
      exact s_ret ev_c fun H4 e4 => k H4 (ExB.trans x03 (ExB.of e4)) (hI3.ex e4)
    | false =>
      rw [hq] at hI3
      have hI3 : SitIn (He.ga K "Situation") H3 A P (movedM S r w) := hI3
      obtain ⟨hM, hMn⟩ := moved_ok hS hr2 hq
      refine (if_neg (by decide)).mpr ?_
      have fin : actM P S r = (w, { movedM S r w with ns := S.ns.set r (nextM P S r (w, g)) }) := by
        unfold actM
        rw [hs, if_neg (by rw [hq]; decide)]
      rw [fin] at k
      have hnx : (movedM S r w).ns.map iV = S.ns.map iV := by rw [hMn]
      have sKeep : sA ∉ A.mut := by
        rcases (show r = 0 ∨ r = 1 by omega) with h | h
        · rw [h] at g1
          have : sA = A.s0 := (V.ref.inj (Option.some.inj (show some (V.ref A.s0) = some (V.ref sA) from g1))).symm
          rw [this]
          exact hI.m0
        · rw [h] at g1
          have : sA = A.s1 := (V.ref.inj (Option.some.inj (show some (V.ref A.s1) = some (V.ref sA) from g1))).symm
          rw [this]
          exact hI.m1
      have done : ∀ (H4 : Hp) (n : Nat) (σ' : L2.St), ExB A.mut H H4 → SitIn (He.ga K "Situation") H4 A P (movedM S r w) → n = nextM P S r (w, g) → σ'[4]? = some (some (.str w)) → tRet (tVar 4) { nx := fun _ H' => Q .non H', rt := Q } σ' (upd H4 A.ns (.lst (((movedM S r w).ns.map iV).set r (iV n)))) := fun H4 n σ' x4 hI4 hn hv4 => by
        subst hn
        refine s_ret (ev_var hv4) fun H5 e5 => k H5 (ExB.trans (x4.put (A_ns A)) (ExB.of e5)) (SitIn.ex (hI4.to (ExB.put (ExB.refl _ _) (A_ns A)) ?_ ?_ ?_ ?_) e5)
        · rw [upd_ne hI.n2]
          exact hI4.cs
        · rw [upd_ne hI.n4]
          exact hI4.hs
        · rw [upd_same, hnx, map_setI]
        · rw [upd_ne (Ne.symm hI.n6)]
          exact hI4.bx
      have setA : ∀ (H5 : Hp) (tv : TE) (n : Nat) (σ' : L2.St), ExB A.mut H H5 → SitIn (He.ga K "Situation") H5 A P (movedM S r w) → n = nextM P S r (w, g) → (∀ H6, Ex H5 H6 → Ev tv σ' H6 (iV n)) → σ'[0]? = some (some (.ref A.x)) → σ'[1]? = some (some (.int (r : Int))) → σ'[4]? = some (some (.str w)) → tAsg tv (gSub (tFld K (tVar 0) "next_steps") (tVar 1) rSetL) { nx := tRet (tVar 4) { nx := fun _ H' => Q .non H', rt := Q }, rt := Q } σ' H5 := fun H5 tv n σ' x5 hI5 hn hv h0 h1 h4 =>
        s_setL (j := r) hI5.nx (v := iV n) (hv H5 (Ex.refl H5)) (ev_fld (ev_var h0) hI5.ob T.c_Situation T.n_Situation_next_steps rfl) (ev_var h1) (by rw [List.length_map, hMn]; exact hrn) fun H6 e6 => done H6 n σ' (x5.trans (ExB.of e6)) (hI5.ex e6) hn h4
      refine (et_is (et_test (ev_op (ev_var rfl) ev_c (rv_isT (T.t_JUMPS _) rfl rfl))) (inV_strs w jumps)) H3 (Ex.refl H3) _ fun H4 e4 => ?_
      have hI4 := hI3.ex e4
      have x04 := x03.trans (ExB.of e4)
      have modV : ∀ (H5 H6 : Hp) (σ' : L2.St), ExB A.mut H H5 → Ex H5 H6 → σ'[2]? = some (some (.ref sA)) → σ'[3]? = some (some (iV (atN S.ns r))) → Ev (tOp (rI (fun _ j => j ≠ 0) fun i j => .int (Int.fmod i j)) (tOp (rI0 fun i j => .int (i + j)) (tVar 3) (tC (.int 1))) (tCB (fun xs H Q => ∃ p ys, xs = [V.ref p] ∧ (SqL K H p ys ∨ SqT K H p ys) ∧ Q (V.int ys.length) H) (tCons (tVar 2) tNil))) σ' H6 (iV ((atN S.ns r + 1) % (lns P r).length)) := fun H5 H6 σ' x5 e6 h2 h3 =>
        ev_is (ev_op (ev_op (ev_var h3) ev_c rv_I0) (ev_len (ev_var h2) (sq_of (e6 _ _ (x5 _ _ sKeep g2)))) (rv_I (by rw [hlen]; omega))) (by
          rw [hlen]
          show V.int (Int.fmod ((atN S.ns r : Int) + 1) ((lns P r).length : Int)) = _
          rw [Int.fmod_eq_emod_of_nonneg _ (by omega)]
          rfl)
      cases hj : decide (w ∈ jumps) with
      | true =>
        have hjm := of_decide_eq_true hj
        have nlr : ¬ (w = "left" ∨ w = "right") := by
          rintro (h | h) <;> (rw [h] at hjm; revert hjm; decide +kernel)
        have np : w ≠ "pick" := by
          intro h
          rw [h] at hjm
          revert hjm
          decide +kernel
        have nq : w ≠ "put" := by
          intro h
          rw [h] at hjm
          revert hjm
          decide +kernel
        have hm := moved_other (S := S) (r := r) nlr np nq
        refine (if_pos rfl).mpr ?_
        refine ⟨_, rfl, A.x, A.dx, _, rfl, hI4.ob, rfl, _, rfl, _, rfl, A, P, movedM S r w, _, _, _, rfl, hI4, hP, hM, ⟨r, w, hr2, hjm, rfl, rfl, rfl⟩, fun H5 x5 hI5 => ⟨_, rfl, ?_⟩⟩
        have x05 := x04.trans x5
        rw [hm]
        cases hk : jumpM S r w with
        | true =>
          refine (if_pos rfl).mpr ?_
          have hgs : g.isSome = true := by rw [hway]; exact hj
          obtain ⟨t, rfl⟩ := Option.isSome_iff_exists.mp hgs
          refine setA H5 _ t _ x05 hI5 ?_ (fun H6 e6 => ev_var rfl) rfl rfl rfl
          unfold nextM
          rw [if_pos hk]
          rfl
        | false =>
          refine (if_neg (by decide)).mpr ?_
          refine setA H5 _ _ _ x05 hI5 ?_ (fun H6 e6 => modV H5 H6 _ x05 e6 rfl rfl) rfl rfl rfl
          unfold nextM
          rw [if_neg (by rw [hk]; decide)]
      | false =>
        refine (if_neg (by decide)).mpr ?_
        refine (if_neg (by decide)).mpr ?_
        refine setA H4 _ _ _ x04 hI4 ?_ (fun H6 e6 => modV H4 H6 _ x04 e6 rfl rfl) rfl rfl rfl
        unfold nextM
        rw [if_neg]
        have hjm := of_decide_eq_false hj
        unfold jumpM
        rw [decide_eq_false (fun h : w = "goto" => hjm (by rw [h]; decide +kernel)), decide_eq_false (fun h : w = "empty" => hjm (by rw [h]; decide +kernel)), decide_eq_false (fun h : w = "held" => hjm (by rw [h]; decide +kernel))]
        simp

theorem ok_Situation_pass_tick (T : Txt K mg) : FnR P w K mg base (L2.CX P w) 4 (He.ma K (He.ga K "Situation") "pass_tick") (spPass (He.ga K "Situation")) := by
  have G_Situation_do_step := ok_Situation_do_step (P := P) (w := w) (base := base) T
  obtain ⟨fd, F⟩ := T.F_Situation_pass_tick
  have B : Binds K fd P_Situation_pass_tick [] := F.bindsN fun _ _ _ _ _ _ us hl => match us, hl with | [_], _ => rfl
  refine fnR_of F B (F.ok sc_Situation_pass_tick (fun vs H Q E h => ?_) (fun cdv A outer s H vs Q E hr h => ?_))
  · obtain ⟨A, P, S, rfl, hI, hP, hS, k⟩ := h; rfl
  · have hu := hu_of hr
    obtain ⟨A, P, S, rfl, hI, hP, hS, k⟩ := h
    refine ⟨_, (pss_cons (ps_set (i := 1) sc_Situation_pass_tick.nd rfl (by first | exact Or.inl rfl | exact Or.inr rfl) (pe_methR (pv 0) T.c_Situation T.m_Situation_do_step G_Situation_do_step (hr.mono (by decide)) px (pa_cons pe_int pa_nil)))
        (pss_one (ps_ret (pe_tup (pa_cons (pv 1) (pa_cons (pe_methR (pv 0) T.c_Situation T.m_Situation_do_step G_Situation_do_step (hr.mono (by decide)) px (pa_cons pe_int pa_nil)) pa_nil)))))), ?_⟩
    refine ⟨_, rfl, A.x, A.dx, _, rfl, hI.ob, rfl, A, P, S, _, _, _, rfl, hI, hP, hS, ⟨0, by decide, rfl, rfl, rfl⟩, fun H1 x1 hI1 => ?_⟩
    have hS1 := act_ok hP hS (r := 0) (by decide)
    refine ⟨_, rfl, _, rfl, A.x, A.dx, _, rfl, hI1.ob, rfl, A, P, _, _, _, _, rfl, hI1, hP, hS1, ⟨1, by decide, rfl, rfl, rfl⟩, fun H2 x2 hI2 => ⟨by show 2 ≤ sizeLine; decide +kernel, fun b hb => ?_⟩⟩
    exact k b _ (ExB.trans (x1.trans x2) (ExB.of (Ex.new hb))) (none_back (x1.trans x2) hI hI2 hb) upd_same (hI2.ex (Ex.new hb))

theorem ok_Situation_frozen (T : Txt K mg) : FnR P w K mg base (L2.CX P w) 1 (He.ma K (He.ga K "Situation") "frozen") (spFrozen K (He.ga K "Situation")) := by
  obtain ⟨fd, F⟩ := T.F_Situation_frozen
  have B : Binds K fd P_Situation_frozen [] := F.bindsN fun _ _ _ _ _ _ us hl => match us, hl with | [_], _ => rfl
  refine fnR_of F B (F.ok sc_Situation_frozen (fun vs H Q E h => ?_) (fun cdv A outer s H vs Q E hr h => ?_))
  · obtain ⟨A, P, S, rfl, hI, k⟩ := h; rfl
  · have hu := hu_of hr
    obtain ⟨A, P, S, rfl, hI, k⟩ := h
    refine ⟨_, (pss_one (ps_ret (pe_tup (pa_cons (pe_callTy call_tuple_of (by rfl) T.b_tuple (by decide +kernel) (pa_cons (pe_fld (pv 0) rfl) pa_nil)) (pa_cons (pe_callTy call_tuple_of (by rfl) T.b_tuple (by decide +kernel) (pa_cons (pe_fld (pv 0) rfl) pa_nil)) (pa_cons (pe_callTy call_tuple_of (by rfl) T.b_tuple (by decide +kernel) (pa_cons (pe_fld (pv 0) rfl) pa_nil)) (pa_cons (pe_callTy call_tuple_of (by rfl) T.b_tuple (by decide +kernel) (pa_cons (pe_fld (pv 0) rfl) pa_nil)) pa_nil))))))), ?_⟩
    refine s_retP (ep_tupP (R := fun vs H1 => ∃ b1 b2 b3 b4, vs = [.ref b1, .ref b2, .ref b3, .ref b4] ∧ nw H H1 b1 = some (.tup (S.cs.map iV)) ∧ nw H H1 b2 = some (.tup (S.hs.map V.bl)) ∧ nw H H1 b3 = some (.tup (S.ns.map iV)) ∧ nw H H1 b4 = some (.tup (S.bx.map iV)))
      (ap_tupL (ev_fld (ev_var rfl) hI.ob T.c_Situation T.n_Situation_robot_cells rfl) hI.cs fun b1 H1 e1 n1 h1 =>
      ap_tupL (ev_fld (ev_var rfl) (hI.ex e1).ob T.c_Situation T.n_Situation_loaded rfl) (hI.ex e1).hs fun b2 H2 e2 n2 h2 =>
      ap_tupL (ev_fld (ev_var rfl) (hI.ex (e1.trans e2)).ob T.c_Situation T.n_Situation_next_steps rfl) (hI.ex (e1.trans e2)).nx fun b3 H3 e3 n3 h3 =>
      ap_tupL (ev_fld (ev_var rfl) (hI.ex ((e1.trans e2).trans e3)).ob T.c_Situation T.n_Situation_boxes rfl) (hI.ex ((e1.trans e2).trans e3)).bx fun b4 H4 e4 n4 h4 =>
      ap_nil fun H5 e5 => ⟨b1, b2, b3, b4, rfl, nw_of n1 ((((e2.trans e3).trans e4).trans e5) _ _ h1), nw_of (fresh_back e1 n2) (((e3.trans e4).trans e5) _ _ h2), nw_of (fresh_back (e1.trans e2) n3) ((e4.trans e5) _ _ h3), nw_of (fresh_back ((e1.trans e2).trans e3) n4) (e5 _ _ h4)⟩)
      (fun vs H1 ⟨_, _, _, _, e, _⟩ => by rw [e]; show 4 ≤ sizeLine; decide +kernel)) fun v H' e' hp => ?_
    obtain ⟨b, vs, H1, rfl, e1, ⟨b1, b2, b3, b4, rfl, h1, h2, h3, h4⟩, hb, rfl⟩ := hp
    exact k b _ e' (frozen_dq (Ex.new hb) h1 h2 h3 h4 (nw_of (fresh_back e1 hb) upd_same))

end SB

set_option maxHeartbeats 4000000
namespace SB
open PySem PySem.Spec PyProof.Rows L2
open TL (tl)
open Evl
variable {P : Program} {w : World} {K : PySem.W.Frag} {mg : Str → Option Value} {base : Heap}

/-- the steps of a plan -/
structure StIn (H : Hp) (st s0 s1 : Addr) (w0 w1 : List V) (P : Plm) : Prop where
  ss : H st = some (.tup [.ref s0, .ref s1])
  h0 : H s0 = some (.lst w0)
  h1 : H s1 = some (.lst w1)
  k0 : All (LkAt H) w0 P.l0
  k1 : All (LkAt H) w1 P.l1
theorem PlIn.st {K : PySem.W.Frag} {H : Hp} {x dx bl ft st s0 s1 : Addr} {w0 w1 : List V} {P : Plm} (h : PlIn K H x dx bl ft st s0 s1 w0 w1 P) : StIn H st s0 s1 w0 w1 P := ⟨h.ss, h.h0, h.h1, h.k0, h.k1⟩
theorem StIn.ex {H H' : Hp} {st s0 s1 : Addr} {w0 w1 : List V} {P : Plm} (h : StIn H st s0 s1 w0 w1 P) (e : Ex H H') : StIn H' st s0 s1 w0 w1 P := ⟨e _ _ h.ss, e _ _ h.h0, e _ _ h.h1, h.k0.imp fun v x r => r.ex e, h.k1.imp fun v x r => r.ex e⟩
/-- where a plan has the cells of its robots -/
def FcAt (K : PySem.W.Frag) (H : Hp) (v : V) (ft : Addr) : Prop := ∃ x dx bl st, v = .ref x ∧ H x = some (.ins (He.ga K "Plan") dx [("boxes", .ref bl), ("first_cells", .ref ft), ("steps", .ref st)])
def spBegin (K : PySem.W.Frag) : Sp := fun vs H Q _ => ∃ v P, vs = [v] ∧ PlOb K H v P ∧ ∀ b H' ft, Ex H H' → FcAt K H v ft → H ft = some (.tup [.int P.a, .int P.b]) → Dq K (nw (wo H ft) H') (.ref b) (keyP (sit0 P)) → Q (.ref b) H'
def spSitInit (K : PySem.W.Frag) (C : Addr) : Sp := fun vs H Q _ => ∃ p dx st s0 s1 w0 w1 fz P S, vs = [.ref p, .ref st, fz] ∧ H p = some (.ins C dx []) ∧ StIn H st s0 s1 w0 w1 P ∧ Dq K H fz (keyP S) ∧ ∀ A H', A.x = p → (∀ a o, a ≠ p → H a = some o → H' a = some o) → (∀ a, a ∈ A.mut → H a = none) → A.s0 = s0 → A.s1 = s1 → A.st = st → A.w0 = w0 → A.w1 = w1 → SitIn C H' A P S → Q .non H'
section
variable {K : PySem.W.Frag} {σ : L2.St} {H : Hp} {D : L2.Ends} {te : TE} {tz : TS} {x y z u : V} {b : Addr} {i j l o n : Nat}
theorem q_tup4 (h : Ev te σ H (.ref b)) (hb : SqT K H b [x, y, z, u]) (hn : 4 = n) (k : ∀ H1, Ex H H1 → tz D ((((σ.set i (some x)).set j (some y)).set l (some z)).set o (some u)) H1) : tSeq (tAsg te (gTup K n (gCons (gName i) (gCons (gName j) (gCons (gName l) (gCons (gName o) gNil)))))) tz D σ H :=
  h H (Ex.refl H) _ fun H1 e => ⟨b, [x, y, z, u], rfl, ex_t e hb, hn, _, _, rfl, _, _, rfl, _, _, rfl, _, _, rfl, rfl, k H1 e⟩
end

theorem ok_beginning (T : Txt K mg) : FnR P w K mg base (L2.CX P w) 1 (He.ga K "beginning") (spBegin K) := by
  obtain ⟨fd, F⟩ := T.F_beginning
  have B : Binds K fd P_beginning [] := F.bindsN fun _ _ _ _ _ _ us hl => match us, hl with | [_], _ => rfl
  refine fnR_of F B (F.ok sc_beginning (fun vs H Q E h => ?_) (fun cdv A outer s H vs Q E hr h => ?_))
  · obtain ⟨v, P, rfl, hP, k⟩ := h; rfl
  · have hu := hu_of hr
    obtain ⟨v, Pl, rfl, hP, k⟩ := h
    refine ⟨_, (pss_one (ps_ret (pe_tup (pa_cons (pe_fld (pv 0) rfl) (pa_cons (pe_tup (pa_cons pe_bl (pa_cons pe_bl pa_nil))) (pa_cons (pe_tup (pa_cons pe_int (pa_cons pe_int pa_nil))) (pa_cons (pe_callTy call_tuple_of (by rfl) T.b_tuple (by decide +kernel) (pa_cons (pe_fld (pv 0) rfl) pa_nil)) pa_nil))))))), ?_⟩
    obtain ⟨x, dx, bl, ft, st, s0, s1, w0, w1, rfl, hPl⟩ := hP
    have c2 : (2 : Nat) ≤ sizeLine := by decide +kernel
    refine s_retP (ep_tupP (R := fun vs H1 => ∃ b2 b3 b4, vs = [.ref ft, .ref b2, .ref b3, .ref b4] ∧ nw H H1 b2 = some (.tup [.bl false, .bl false]) ∧ nw H H1 b3 = some (.tup [.int 0, .int 0]) ∧ nw H H1 b4 = some (.tup (Pl.bx.map iV)))
      (ap_cons (P := fun v _ => v = .ref ft) (Ev.p (ev_fld (ev_var rfl) hPl.ob T.c_Plan T.n_Plan_first_cells rfl) fun _ _ => rfl) fun v1 H1 e1 hv1 =>
      ap_cons (ep_tupN (xs := [.bl false, .bl false]) (ea_cons ev_c (ea_cons ev_c ea_nil)) c2) fun v2 H2 e2 ⟨b2, hv2, n2, h2⟩ =>
      ap_cons (ep_tupN (xs := [.int 0, .int 0]) (ea_cons ev_c (ea_cons ev_c ea_nil)) c2) fun v3 H3 e3 ⟨b3, hv3, n3, h3⟩ =>
      ap_tupL (ev_fld (ev_var rfl) (((e1.trans e2).trans e3) _ _ hPl.ob) T.c_Plan T.n_Plan_boxes rfl) (((e1.trans e2).trans e3) _ _ hPl.bxs) fun b4 H4 e4 n4 h4 =>
      ap_nil fun H5 e5 => ⟨b2, b3, b4, by rw [hv1, hv2, hv3], nw_of (fresh_back e1 n2) (((e3.trans e4).trans e5) _ _ h2), nw_of (fresh_back (e1.trans e2) n3) ((e4.trans e5) _ _ h3), nw_of (fresh_back ((e1.trans e2).trans e3) n4) (e5 _ _ h4)⟩)
      (fun vs H1 ⟨_, _, _, e, _⟩ => by rw [e]; show 4 ≤ sizeLine; decide +kernel)) fun v H' e' hp => ?_
    obtain ⟨b, vs, H1, rfl, e1, ⟨b2, b3, b4, rfl, h2, h3, h4⟩, hb, rfl⟩ := hp
    have up : ∀ {a : Addr} {o : HO}, nw H H1 a = some o → nw (wo H ft) (upd H1 b (.tup [.ref ft, .ref b2, .ref b3, .ref b4])) a = some o := fun h => by
      obtain ⟨g1, g2⟩ := nw_is h
      exact nw_of (wo_none g1) (Ex.new hb _ _ g2)
    exact k b _ ft e' ⟨x, dx, bl, st, rfl, hPl.ob⟩ hPl.fc (.tup (nw_of (wo_none (fresh_back e1 hb)) upd_same) (.cons (.tup (nw_of wo_self (e' _ _ hPl.fc)) (.cons (.int _) (.cons (.int _) .nil))) (.cons (.tup (up h2) (dqAll_bools [false, false])) (.cons (.tup (up h3) (dqAll_ints [0, 0])) (.cons (.tup (up h4) (dqAll_ints _)) .nil)))))

theorem ok_Situation_init (T : Txt K mg) : FnR P w K mg base (L2.CX P w) 1 (He.ma K (He.ga K "Situation") "__init__") (spSitInit K (He.ga K "Situation")) := by
  obtain ⟨fd, F⟩ := T.F_Situation_init
  have B : Binds K fd P_Situation_init [] := F.bindsN fun _ _ _ _ _ _ us hl => match us, hl with | [_, _, _], _ => rfl
  refine fnR_of F B (F.ok sc_Situation_init (fun vs H Q E h => ?_) (fun cdv A outer s H vs Q E hr h => ?_))
  · obtain ⟨p, dx, st, s0, s1, w0, w1, fz, P, S, rfl, hp, hP, hD, k⟩ := h; rfl
  · have hu := hu_of hr
    obtain ⟨p, dx, st, s0, s1, w0, w1, fz, Pl, S, rfl, hp, hSt, hD, k⟩ := h
    refine ⟨_, (pss_cons (ps_asg (pv 2) (pg_tup rfl (pgs_cons (pg_name (i := 3) sc_Situation_init.nd rfl (by first | exact Or.inl rfl | exact Or.inr rfl)) (pgs_cons (pg_name (i := 4) sc_Situation_init.nd rfl (by first | exact Or.inl rfl | exact Or.inr rfl)) (pgs_cons (pg_name (i := 5) sc_Situation_init.nd rfl (by first | exact Or.inl rfl | exact Or.inr rfl)) (pgs_cons (pg_name (i := 6) sc_Situation_init.nd rfl (by first | exact Or.inl rfl | exact Or.inr rfl)) pgs_nil))))))
        (pss_cons (ps_fld (pv 0) (pv 1) rfl)
        (pss_cons (ps_fld (pv 0) (pe_callTy call_list_of (by rfl) T.b_list (by decide +kernel) (pa_cons (pv 3) pa_nil)) rfl)
        (pss_cons (ps_fld (pv 0) (pe_callTy call_list_of (by rfl) T.b_list (by decide +kernel) (pa_cons (pv 4) pa_nil)) rfl)
        (pss_cons (ps_fld (pv 0) (pe_callTy call_list_of (by rfl) T.b_list (by decide +kernel) (pa_cons (pv 5) pa_nil)) rfl)
        (pss_one (ps_fld (pv 0) (pe_callTy call_list_of (by rfl) T.b_list (by decide +kernel) (pa_cons (pv 6) pa_nil)) rfl))))))), ?_⟩
    obtain ⟨f, fc, fl, fn, fb, rfl, hf, hfc, hfl, hfn, hfb⟩ := key_of hD
    have npi : ∀ {a : Addr} {o : HO}, H a = some o → (∀ C d, o ≠ .ins C d []) → a ∉ [p] := fun {a o} h hn m => by
      rw [List.mem_singleton.mp m, hp] at h
      exact hn _ _ (Option.some.inj h).symm
    refine q_tup4 (ev_var rfl) (st_of hf) rfl fun H0 e0 => ?_
    have x0 : ExB [p] H H0 := ExB.of e0
    have p0 := e0 _ _ hp
    refine q_sfldP (P := fun v _ => v = .ref st) (Ev.p (ev_var rfl) fun _ _ => rfl) rfl p0 T.c_Situation T.n_Situation_steps (by show 0 < 1000; decide) fun v1 K1 e1 hv1 => ?_
    subst hv1
    generalize hK1 : upd K1 p _ = H1
    have x1 : ExB [p] H H1 := by rw [← hK1]; exact (ExB.of (e0.trans e1)).put (List.mem_singleton.mpr rfl)
    have p1 : H1 p = some (.ins (He.ga K "Situation") dx [("steps", .ref st)]) := by rw [← hK1]; exact upd_same
    refine q_sfldP (ep_listT (ev_var rfl) (x1 _ _ (npi hfc (fun _ _ z => by cases z)) hfc)) rfl p1 T.c_Situation T.n_Situation_robot_cells (by show 1 < 1000; decide) fun v2 K2 e2 hv2 => ?_
    obtain ⟨rc, rfl, nrc, hrc⟩ := hv2
    generalize hK2 : upd K2 p _ = H2
    have x2 : ExB [p] H1 H2 := by rw [← hK2]; exact (ExB.of e2).put (List.mem_singleton.mpr rfl)
    have p2 : H2 p = some (.ins (He.ga K "Situation") dx [("steps", .ref st), ("robot_cells", .ref rc)]) := by rw [← hK2]; exact upd_same
    obtain ⟨nrc0, rcp⟩ := freshB x1 hp p1 nrc
    have hrc2 : H2 rc = some (.lst (S.cs.map iV)) := by rw [← hK2, upd_ne rcp]; exact hrc
    refine q_sfldP (ep_listT (ev_var rfl) ((x1.trans x2) _ _ (npi hfl (fun _ _ z => by cases z)) hfl)) rfl p2 T.c_Situation T.n_Situation_loaded (by show 2 < 1000; decide) fun v3 K3 e3 hv3 => ?_
    obtain ⟨ld, rfl, nld, hld⟩ := hv3
    generalize hK3 : upd K3 p _ = H3
    have x3 : ExB [p] H2 H3 := by rw [← hK3]; exact (ExB.of e3).put (List.mem_singleton.mpr rfl)
    have p3 : H3 p = some (.ins (He.ga K "Situation") dx [("steps", .ref st), ("robot_cells", .ref rc), ("loaded", .ref ld)]) := by rw [← hK3]; exact upd_same
    obtain ⟨nld0, ldp⟩ := freshB (x1.trans x2) hp p2 nld
    have hld3 : H3 ld = some (.lst (S.hs.map V.bl)) := by rw [← hK3, upd_ne ldp]; exact hld
    refine q_sfldP (ep_listT (ev_var rfl) (((x1.trans x2).trans x3) _ _ (npi hfn (fun _ _ z => by cases z)) hfn)) rfl p3 T.c_Situation T.n_Situation_next_steps (by show 3 < 1000; decide) fun v4 K4 e4 hv4 => ?_
    obtain ⟨ns, rfl, nns, hns⟩ := hv4
    generalize hK4 : upd K4 p _ = H4
    have x4 : ExB [p] H3 H4 := by rw [← hK4]; exact (ExB.of e4).put (List.mem_singleton.mpr rfl)
    have p4 : H4 p = some (.ins (He.ga K "Situation") dx [("steps", .ref st), ("robot_cells", .ref rc), ("loaded", .ref ld), ("next_steps", .ref ns)]) := by rw [← hK4]; exact upd_same
    obtain ⟨nns0, nsp⟩ := freshB ((x1.trans x2).trans x3) hp p3 nns
    have hns4 : H4 ns = some (.lst (S.ns.map iV)) := by rw [← hK4, upd_ne nsp]; exact hns
    have x04 := ((x1.trans x2).trans x3).trans x4
    refine s_sfldP (ep_listT (ev_var rfl) (x04 _ _ (npi hfb (fun _ _ z => by cases z)) hfb)) rfl p4 T.c_Situation T.n_Situation_boxes (by show 4 < 1000; decide) fun v5 K5 e5 hv5 => ?_
    obtain ⟨bl', rfl, nbl, hbl⟩ := hv5
    generalize hK5 : upd K5 p _ = H5
    have x5 : ExB [p] H4 H5 := by rw [← hK5]; exact (ExB.of e5).put (List.mem_singleton.mpr rfl)
    have p5 : H5 p = some (.ins (He.ga K "Situation") dx [("steps", .ref st), ("robot_cells", .ref rc), ("loaded", .ref ld), ("next_steps", .ref ns), ("boxes", .ref bl')]) := by rw [← hK5]; exact upd_same
    obtain ⟨nbl0, blp⟩ := freshB x04 hp p4 nbl
    have hbl5 : H5 bl' = some (.lst (S.bx.map iV)) := by rw [← hK5, upd_ne blp]; exact hbl
    have x05 := x04.trans x5
    have np : ∀ {a : Addr}, a ≠ p → a ∉ [p] := fun n m => n (List.mem_singleton.mp m)
    have ne_ : ∀ {Hx : Hp} {a b : Addr} {o : HO}, Hx a = some o → Hx b = none → a ≠ b := fun h1 h2 e => by
      rw [e, h2] at h1
      cases h1
    have tr : ∀ {ws : List V} {l : List Lk}, All (LkAt H) ws l → Paired (fun v (s : Lk) => ∃ a, v = V.ref a ∧ H5 a = some (.tup [.str s.1, lkVs s])) ws l := fun h => by
      refine Paired.mapP h fun v s ⟨a, e1, e2⟩ => ⟨a, e1, ?_⟩
      rw [x05 _ _ (npi e2 (fun _ _ z => by cases z)) e2]
      unfold lkVs
      cases s.2 <;> rfl
    refine k ⟨p, dx, st, rc, ld, ns, bl', s0, s1, w0, w1⟩ H5 rfl (fun a o n h => x05 a o (np n) h) (fun a m => ?_) rfl rfl rfl rfl rfl ⟨p5, x05 _ _ (npi hSt.ss (fun _ _ z => by cases z)) hSt.ss, x05 _ _ (npi hSt.h0 (fun _ _ z => by cases z)) hSt.h0, x05 _ _ (npi hSt.h1 (fun _ _ z => by cases z)) hSt.h1, tr hSt.k0, tr hSt.k1, ((x3.trans x4).trans x5) _ _ (np rcp) hrc2, (x4.trans x5) _ _ (np ldp) hld3, x5 _ _ (np nsp) hns4, hbl5, ne_ hrc2 nld, ne_ (x3 _ _ (np rcp) hrc2) nns, ne_ ((x3.trans x4) _ _ (np rcp) hrc2) nbl, ne_ hld3 nns, ne_ (x4 _ _ (np ldp) hld3) nbl, ne_ hns4 nbl, ?_, ?_⟩
    · simp only [SA.mut, List.mem_cons, List.not_mem_nil, or_false] at m
      rcases m with m | m | m | m <;> rw [m] <;> assumption
    · intro m
      simp only [SA.mut, List.mem_cons, List.not_mem_nil, or_false] at m
      have hz := hSt.h0
      rcases m with m | m | m | m <;> (rw [m] at hz; simp_all)
    · intro m
      simp only [SA.mut, List.mem_cons, List.not_mem_nil, or_false] at m
      have hz := hSt.h1
      rcases m with m | m | m | m <;> (rw [m] at hz; simp_all)

end SB

set_option maxHeartbeats 4000000
namespace SB
open PySem PySem.Spec PyProof.Rows L2
open TL (tl)
open Evl
variable {P : Program} {w : World} {K : PySem.W.Frag} {mg : Str → Option Value} {base : Heap}

def spRunInit (K : PySem.W.Frag) (C : Addr) : Sp := fun vs H Q _ => ∃ p dx v P, vs = [.ref p, v] ∧ H p = some (.ins C dx []) ∧ PlOb K H v P ∧ PlanOk P ∧ Repeats P 20000 ∧ ∀ b l H' ft, Cyc P b l → b + l ≤ 20000 → (∀ a o, a ≠ p → H a = some o → H' a = some o) → FcAt K H v ft → H ft = some (.tup [.int P.a, .int P.b]) → RunD K C H' (nw (wo H ft) H') p P b l → Q .non H'

theorem ok_Run_init (T : Txt K mg) : FnR P w K mg base (L2.CX P w) 5 (He.ma K (He.ga K "Run") "__init__") (spRunInit K (He.ga K "Run")) := by
  have G_beginning := ok_beginning (P := P) (w := w) (base := base) T
  have KP_beginning : PySem.W.keepIn K (.ref (He.ga K "beginning")) = true := by
    obtain ⟨_, F⟩ := T.F_beginning
    exact F.kp
  have G_Situation_init := ok_Situation_init (P := P) (w := w) (base := base) T
  have G_Situation_frozen := ok_Situation_frozen (P := P) (w := w) (base := base) T
  have G_Situation_pass_tick := ok_Situation_pass_tick (P := P) (w := w) (base := base) T
  obtain ⟨fd, F⟩ := T.F_Run_init
  have B : Binds K fd P_Run_init [] := F.bindsN fun _ _ _ _ _ _ us hl => match us, hl with | [_, _], _ => rfl
  refine fnR_of F B (F.ok sc_Run_init (fun vs H Q E h => ?_) (fun cdv A outer s H vs Q E hr h => ?_))
  · obtain ⟨p, dx, v, P, rfl, hp, hP, k⟩ := h; rfl
  · have hu := hu_of hr
    obtain ⟨p, dx, v, Pl, rfl, hp, hPl, hPO, hR, k⟩ := h
    have hu64 := hr.units
    refine ⟨_, (pss_cons (ps_set (i := 2) sc_Run_init.nd rfl (by first | exact Or.inl rfl | exact Or.inr rfl) (pe_callR G_beginning (hr.mono (by decide)) T.g_beginning KP_beginning px (pa_cons (pv 1) pa_nil)))
        (pss_cons (ps_set (i := 3) sc_Run_init.nd rfl (by first | exact Or.inl rfl | exact Or.inr rfl) (StX.pe_makeR T.k_Situation G_Situation_init (hr.mono (by decide)) (by rfl) T.g_Situation px (pa_cons (pe_fld (pv 1) rfl) (pa_cons (pv 2) pa_nil))))
        (pss_cons (ps_set (i := 4) sc_Run_init.nd rfl (by first | exact Or.inl rfl | exact Or.inr rfl) pe_nnew)
        (pss_cons (ps_set (i := 5) sc_Run_init.nd rfl (by first | exact Or.inl rfl | exact Or.inr rfl) (pe_lst pa_nil))
        (pss_cons (ps_while (passes_of rfl) (pt_cmp (pc_nnotin hu64 (pv 2) (pv 4))) (pss_cons (ps_if (pt_cmpR op_eq (pe_callB call_len_nd (by rfl) T.b_len (by decide +kernel) (pa_cons (pv 4) pa_nil)) (pe_gi T.v_LAST_TICK_TO_REPEAT) (nomark _)) (pss_one ps_never) pss_nil)
        (pss_cons (ps_asg (pe_callB call_len_nd (by rfl) T.b_len (by decide +kernel) (pa_cons (pv 4) pa_nil)) (pg_sub (pv 4) (pv 2) (set_nd hu64)))
        (pss_cons (ps_expr (pe_bm PySem.F.plainAttrs_list PySem.F.slot_list_append PySem.F.type_list_append mt_append (pv 5) (pa_cons (pe_methR0 (pv 3) T.c_Situation T.m_Situation_pass_tick G_Situation_pass_tick (hr.mono (by decide)) px) pa_nil)))
        (pss_one (ps_set (i := 2) sc_Run_init.nd rfl (by first | exact Or.inl rfl | exact Or.inr rfl) (pe_methR0 (pv 3) T.c_Situation T.m_Situation_frozen G_Situation_frozen (hr.mono (by decide)) px)))))))
        (pss_cons (ps_fld (pv 0) (pe_callTy (call_list_nd (by rfl)) (by rfl) T.b_list (by decide +kernel) (pa_cons (pv 4) pa_nil)) rfl)
        (pss_cons (ps_fld (pv 0) (pv 5) rfl)
        (pss_cons (ps_fld (pv 0) (pe_nget hu64 (pv 4) (pv 2) (fun _ _ => rfl)) rfl)
        (pss_one (ps_fld (pv 0) (pe_op op_sub (pe_callB call_len_nd (by rfl) T.b_len (by decide +kernel) (pa_cons (pv 4) pa_nil)) (pe_fld (pv 0) rfl)) rfl)))))))))), ?_⟩
    refine q_setH ⟨_, rfl, v, Pl, rfl, hPl, fun b H0 ft e0 hft hftH hb => ?_⟩
    obtain ⟨px, pdx, pbl, pft, pst, s0, s1, w0, w1, rfl, hIn⟩ := hPl
    obtain rfl : ft = pft := by
      obtain ⟨x, dx, bl, st, e1, e2⟩ := hft
      cases e1
      rw [hIn.ob] at e2
      cases e2
      rfl
    have hB : Ex (wo H ft) H := wo_ex
    have hpf : p ≠ ft := ne_of hp hftH (by intro z; cases z)
    have hbH : Dq K H0 (.ref b) (keyP (sit0 Pl)) := dq_ex (nw_all (hB.trans e0)) hb
    refine ⟨_, rfl, _, _, _, _, _, rfl, e0 _ _ hIn.ob, T.c_Plan, T.n_Plan_steps, rfl, _, rfl, fun x dx1 nx ndx ne => ⟨x, dx1, pst, s0, s1, w0, w1, .ref b, Pl, sit0 Pl, rfl, upd_same, hIn.st.ex (e0.trans (Ex.mut (Ex.mut (Ex.refl H0) ndx) nx)), dq_ex (Ex.mut (Ex.mut (Ex.refl H0) ndx) nx) hbH, fun A H1 hAx xo hAm hs0 hs1 _ _ _ hI => ⟨rfl, ?_⟩⟩⟩
    subst hAx
    have nx0 := nx
    have nx := fresh_back e0 nx0
    have ndx0 := ndx
    have hs0 : H A.s0 ≠ none := by rw [hs0, hIn.h0]; exact fun z => by cases z
    have hs1 : H A.s1 ≠ none := by rw [hs1, hIn.h1]; exact fun z => by cases z
    have xx : Ex H (upd (upd H0 dx1 (.own A.x)) A.x (.ins (He.ga K "Situation") dx1 [])) := e0.trans (Ex.mut (Ex.mut (Ex.refl H0) ndx) nx0)
    have xx1 : ∀ a o, H0 a = some o → H1 a = some o := fun a o h => xo a o (fun e => by subst e; rw [h] at nx0; cases nx0) ((Ex.mut (Ex.mut (Ex.refl H0) ndx) nx0) a o h)
    have x1 : Ex H H1 := e0.trans xx1
    have fA : ∀ a ∈ A.mut, H a = none := fun a m => fresh_back xx (hAm a m)
    have hb1 : Dq K (nw (wo H ft) H1) (.ref b) (keyP (sit0 Pl)) := dq_ex (nw_ex xx1) hb
    refine fun d hd => ⟨by show 0 ≤ sizeLine; exact Nat.zero_le _, fun wl hwl => ?_⟩
    have e2 : Ex H1 (upd H1 d (DN P w d [])) := Ex.new hd
    have e3 : Ex (upd H1 d (DN P w d [])) (upd (upd H1 d (DN P w d [])) wl (.lst [])) := Ex.new hwl
    have hdw : d ≠ wl := ne_of_none upd_same hwl
    have hI3 := hI.ex (e2.trans e3)
    have nm : ∀ {q : Addr} {Hq : Hp}, SitIn (He.ga K "Situation") Hq A Pl (sit0 Pl) → Hq q = none → q ∉ A.mut := fun {q Hq} h hn m => by
      simp only [SA.mut, List.mem_cons, List.not_mem_nil, or_false] at m
      rcases m with m | m | m | m <;> rw [m] at hn
      · rw [h.cs] at hn; cases hn
      · rw [h.hs] at hn; cases hn
      · rw [h.nx] at hn; cases hn
      · rw [h.bx] at hn; cases hn
    have I0 : RunInv P w K (He.ga K "Situation") (wo H ft) H (upd (upd H1 d (DN P w d [])) wl (HO.lst [])) A d wl b Pl 0 := ⟨hB, (x1.trans e2).trans e3, hI3, fA, nm hI hd, nm (hI.ex e2) hwl, hdw, fresh_back x1 hd, fresh_back (x1.trans e2) hwl, ⟨[], e3 _ _ upd_same, .nil⟩, ⟨[], upd_same, .nil⟩, dq_ex (nw_ex (e2.trans e3)) hb1, fun i j _ h => absurd h (by omega), by omega, hs0, hs1⟩
    refine ⟨fun m σ' H' => ∃ n b, m = 20000 - n ∧ σ' = [some (.ref p), some (.ref px), some (.ref b), some (.ref A.x), some (.ref d), some (.ref wl)] ∧ RunInv P w K (He.ga K "Situation") (wo H ft) H H' A d wl b Pl n, ⟨20000, 0, b, rfl, rfl, I0⟩, fun m σ' H' hW => ?_⟩
    obtain ⟨n, b, rfl, rfl, I⟩ := hW
    obtain ⟨ks, hk, hK⟩ := I.td
    refine ⟨_, rfl, _, rfl, d, b, ks, keyP (sitAt Pl n), rfl, rfl, hk, hK.ok (nw_all (I.eb.trans I.ex)), keyP_ok _, dq_ex (nw_all (I.eb.trans I.ex)) I.bf, _, rfl, ?_⟩
    cases hq : lookN ks (nkD (keyP (sitAt Pl n))) with
    | none =>
      have hn : n < 20000 := by
        obtain ⟨i, j, ij, jn, e⟩ := hR
        have := I.le
        by_cases c : n < 20000
        · exact c
        · exfalso
          by_cases c2 : j = n
          · rw [c2] at e ij
            exact hK.out hq ij e
          · exact I.new i j ij (by omega) e
      refine (if_pos rfl).mpr ⟨fun σ4 H4 => ∃ b, σ4 = [some (.ref p), some (.ref px), some (.ref b), some (.ref A.x), some (.ref d), some (.ref wl)] ∧ RunInv P w K (He.ga K "Situation") (wo H ft) H H4 A d wl b Pl (n + 1), fun σ4 H4 ⟨b', e, I'⟩ => ⟨20000 - (n + 1), by omega, n + 1, b', rfl, e, I'⟩, ?_⟩
      refine q_when (b := decide (n = 20000)) (et_test (ev_is (ev_op (ev_lenN (ev_var rfl) hk) ev_c (rv_eq rfl)) (congrArg V.bl (decide_eq_decide.mpr ?_)))) (fun hb2 H1 e1 => absurd (of_decide_eq_true hb2) (by omega)) (fun _ H1 e1 => ?_)
      · rw [hK.len]
        constructor
        · intro h
          have := V.int.inj h
          omega
        · intro h
          omega
      have I1 := I.grow e1
      have hk1 := e1 _ _ hk
      have hK1 := hK.exT (ExT.of e1).nw
      obtain ⟨ws, hw, hW⟩ := I1.tw
      refine ⟨_, rfl, d, ks, rfl, hk1, _, rfl, _, rfl, d, b, ks, keyP (sitAt Pl n), rfl, rfl, hk1, hK1.ok (nw_all (I1.eb.trans I1.ex)), keyP_ok _, dq_ex (nw_all (I1.eb.trans I1.ex)) I1.bf, ?_, ?_⟩
      · rw [hK.len]
        exact sz_lt (by omega)
      rw [hK.len]
      generalize hH2 : upd H1 d _ = H2
      have hI2 : SitIn (He.ga K "Situation") H2 A Pl (sitAt Pl n) := by
        rw [← hH2]
        exact I1.sit.put hk1 I.dA (fun e => I.s0 (e ▸ I.d0)) (fun e => I.s1 (e ▸ I.d0)) (fun _ _ _ e => by cases e) (fun _ e => by cases e)
      have hw2 : H2 wl = some (.lst ws) := by
        rw [← hH2, upd_ne (Ne.symm I.dw)]
        exact hw
      refine ⟨_, rfl, Or.inl ⟨rfl, ws, sq_of hw2⟩, _, rfl, A.x, A.dx, _, rfl, hI2.ob, rfl, A, Pl, _, rfl, hI2, hPO, sitAt_ok hPO n, fun a H3 x3 ha0 ha hI3 => ⟨wl, ws, _, rfl, rfl, x3 _ _ I.wA hw2, ?_, ?_⟩⟩
      · rw [hW.len]
        exact sz_lt (by omega)
      have hI4 : SitIn (He.ga K "Situation") (upd H3 wl (.lst (ws ++ [.ref a]))) A Pl (sitAt Pl (n + 1)) := SitIn.put hI3 (x3 _ _ I.wA hw2) I.wA (fun e => I.s0 (e ▸ I.w0)) (fun e => I.s1 (e ▸ I.w0)) (fun _ _ _ e => by cases e) (fun _ e => by cases e)
      exact ⟨_, rfl, A.x, A.dx, _, rfl, hI4.ob, rfl, A, Pl, _, rfl, hI4, fun b' H5 e5 hb' => ⟨b', rfl, I1.step hk1 hK1 hw hW hq (by omega) hH2.symm x3 ha0 ha hI3 e5 hb'⟩⟩
    | some v1 =>
      obtain ⟨i, hi, hsi, rfl⟩ := hK.get hq
      refine (if_neg (by simp)).mpr ?_
      obtain ⟨ws, hw, hW⟩ := I.tw
      have hin : i + (n - i) = n := by omega
      have dp : d ≠ p := Ne.symm (ne_of_none hp I.d0)
      have wp : wl ≠ p := Ne.symm (ne_of_none hp I.w0)
      refine q_sfldP (ep_listN (ev_var rfl) hk) rfl (I.ex _ _ hp) T.c_Run T.n_Run_situations (by show 0 < 1000; decide) fun v1 K1 e1 hv1 => ?_
      obtain ⟨sl, rfl, nsl, hsl⟩ := hv1
      have sl0 : H sl = none := fresh_back I.ex nsl
      have hpB : wo H ft p = some _ := wo_of hpf hp
      have J1 := I.grow e1
      generalize hK1 : upd K1 p _ = H1
      have p1 : H1 p = some (.ins (He.ga K "Run") dx [("situations", .ref sl)]) := by rw [← hK1]; exact upd_same
      have n1 : nw (wo H ft) H1 = nw (wo H ft) K1 := by rw [← hK1]; exact nw_old hpB
      refine q_sfldP (P := fun v _ => v = .ref wl) (Ev.p (ev_var rfl) fun _ _ => rfl) rfl p1 T.c_Run T.n_Run_words (by show 1 < 1000; decide) fun v2 K2 e2 hv2 => ?_
      subst hv2
      generalize hK2 : upd K2 p _ = H2
      have p2 : H2 p = some (.ins (He.ga K "Run") dx [("situations", .ref sl), ("words", .ref wl)]) := by rw [← hK2]; exact upd_same
      have n2 : nw (wo H ft) H2 = nw (wo H ft) K2 := by rw [← hK2]; exact nw_old hpB
      have e12 : Ex (nw (wo H ft) K1) (nw (wo H ft) H2) := by
        rw [n2, ← n1]
        exact nw_ex e2
      have hk2 : H2 d = some (DN P w d ks) := (nw_is (e12 _ _ (nw_of (wo_none I.d0) (e1 _ _ hk)))).2
      have hK2' : KsAt K (nw (wo H ft) H2) Pl n ks := hK.exT (ExT.of ((nw_ex e1).trans e12))
      have bf2 : Dq K (nw (wo H ft) H2) (.ref b) (keyP (sitAt Pl n)) := dq_ex ((nw_ex e1).trans e12) I.bf
      have ex2 : ∀ a o, a ≠ p → H a = some o → H2 a = some o := fun a o h ha => by
        rw [← hK2, upd_ne h]
        refine e2 _ _ ?_
        rw [← hK1, upd_ne h]
        exact e1 _ _ (I.ex _ _ ha)
      have all2 : Ex (nw (wo H ft) H2) H2 := fun a o h => (nw_is h).2
      refine q_sfldP (P := fun v _ => v = .int (i : Int)) (Ev.p (ev_nget (ev_var rfl) (ev_var rfl) hk2 (fun H1 e => hK2'.ok (all2.trans e)) (keyP_ok _) (dq_ex all2 bf2) hq) fun _ _ => rfl) rfl p2 T.c_Run T.n_Run_begin (by show 2 < 1000; decide) fun v3 K3 e3 hv3 => ?_
      subst hv3
      generalize hK3 : upd K3 p _ = H3
      have p3 : H3 p = some (.ins (He.ga K "Run") dx [("situations", .ref sl), ("words", .ref wl), ("begin", .int (i : Int))]) := by rw [← hK3]; exact upd_same
      have n3 : nw (wo H ft) H3 = nw (wo H ft) K3 := by rw [← hK3]; exact nw_old hpB
      have e23 : Ex (nw (wo H ft) H2) (nw (wo H ft) H3) := by
        rw [n3]
        exact nw_ex e3
      have hk3 : H3 d = some (DN P w d ks) := (nw_is (e23 _ _ (nw_of (wo_none I.d0) hk2))).2
      refine s_sfldP (P := fun v _ => v = iV (n - i)) (Ev.p (ev_is (ev_op (ev_lenN (ev_var rfl) hk3) (ev_fld (ev_var rfl) p3 T.c_Run T.n_Run_begin rfl) rv_I0) ?_) fun _ _ => rfl) rfl p3 T.c_Run T.n_Run_length (by show 3 < 1000; decide) fun v4 K4 e4 hv4 => ?_
      · rw [hK.len]
        show V.int ((n : Int) - (i : Int)) = V.int ((n - i : Nat) : Int)
        rw [Int.ofNat_sub (by omega)]
      subst hv4
      generalize hK4 : upd K4 p _ = H4
      have p4 : H4 p = some (.ins (He.ga K "Run") dx [("situations", .ref sl), ("words", .ref wl), ("begin", iV i), ("length", iV (n - i))]) := by rw [← hK4]; exact upd_same
      have n4 : nw (wo H ft) H4 = nw (wo H ft) K4 := by rw [← hK4]; exact nw_old hpB
      have e24 : Ex (nw (wo H ft) H2) (nw (wo H ft) H4) := e23.trans (by rw [n4]; exact nw_ex e4)
      have e14 := e12.trans e24
      refine k i (n - i) H4 ft ⟨by omega, fun a c h1 h2 => I.new a c h1 (by omega), by rw [hin]; exact hsi.symm⟩ (by have := I.le; omega) (fun a o h ha => ?_) hft hftH ⟨dx, sl, wl, p4, ?_, ?_⟩
      · rw [← hK4, upd_ne h]
        refine e4 _ _ ?_
        rw [← hK3, upd_ne h]
        exact e3 _ _ (ex2 a o h ha)
      · rw [hin]
        exact .lst (e14 _ _ (nw_of (wo_none sl0) hsl)) (dqAll_ex ((nw_ex e1).trans e14) hK.dq)
      · rw [hin]
        exact .lst (e14 _ _ (nw_of (wo_none I.w0) (e1 _ _ hw))) (dqAll_ex ((nw_ex e1).trans e14) hW.dq)

end SB

set_option maxHeartbeats 4000000
namespace SB
open PySem PySem.Spec PyProof.Rows L2
open TL (tl)
open Evl
variable {P : Program} {w : World} {K : PySem.W.Frag} {mg : Str → Option Value} {base : Heap}


/-- a method of a run -/
def PhKept (K : PySem.W.Frag) (C : Addr) (as : List En) (ψ : FP) : Prop := ∃ Pl b l t, Cyc Pl b l ∧ as = [.fx (RunF K C Pl b l), .fx (Dd K (iD t))] ∧ ψ = Dd K (iD (keptM b l t))
def PhBefore (K : PySem.W.Frag) (C : Addr) (as : List En) (ψ : FP) : Prop := ∃ Pl b l t, Cyc Pl b l ∧ as = [.fx (RunF K C Pl b l), .fx (Dd K (iD t))] ∧ ψ = Dd K (keyP (sitAt Pl t))
def PhWords (K : PySem.W.Frag) (C : Addr) (as : List En) (ψ : FP) : Prop := ∃ Pl b l t, Cyc Pl b l ∧ as = [.fx (RunF K C Pl b l), .fx (Dd K (iD t))] ∧ ψ = Dd K (wordsD (wordsAt Pl t))




end SB

set_option maxHeartbeats 4000000
namespace SB
open PySem PySem.Spec PyProof.Rows L2
open TL (tl)
open Evl
variable {P : Program} {w : World} {K : PySem.W.Frag} {mg : Str → Option Value} {base : Heap}


def PhNumber (K : PySem.W.Frag) (as : List En) (ψ : FP) : Prop := ∃ i : Int, as = [.fx (Dd K (.int i))] ∧ ψ = Dd K (.bool true)
def PhTickOk (K : PySem.W.Frag) (as : List En) (ψ : FP) : Prop := ∃ n : Nat, n ≤ 1000000000000000000 ∧ as = [.fx (Dd K (iD n))] ∧ ψ = Dd K .none




/-- a plan that was read -/
def PlF (K : PySem.W.Frag) (Pl : Plm) : FP := ⟨fun F v => PlOb K F v Pl, fun e h => h.ex e⟩
/-- its run -/
def RunE (K : PySem.W.Frag) (C : Addr) (Pl : Plm) : FP := FP.ex (fun bl : Nat × Nat => Cyc Pl bl.1 bl.2) fun bl => RunF K C Pl bl.1 bl.2
/-- a text that is right -/
structure Txts (z : Str) (Pl : Plm) : Prop where
  rd : Reads z Pl
  ok : PlanOk Pl
  rep : Repeats Pl 20000
section
variable {m : Fm} {K : PySem.W.Frag} {Γ : List En} {te : TE} {XE : XK} {z : Str} {Pl : Plm}
theorem eg_readP (h : EG m Γ te (Dd K (.str z))) (hz : Txts z Pl) : EG m Γ (tCallR (spRead K) XE (tCons te tNil)) (PlF K Pl) := eg_callO (ag_cons h ag_nil) fun F H vs e p Q q => by
  cases p with
  | cons p t =>
    cases t
    have p : Dq K F _ (.str z) := p
    cases p
    exact ⟨z, Pl, rfl, hz.rd, fun v H' e' hv => q v H' e' fun F' x1 x2 => hv.ex x2⟩
theorem eg_runP {C : Addr} (h : EG m Γ te (PlF K Pl)) (hP : PlanOk Pl) (hR : Repeats Pl 20000) : EG m Γ (StX.tMakeR C (spRunInit K C) XE (tCons te tNil)) (RunE K C Pl) := eg_makeO (ag_cons h ag_nil) fun F H vs e p x dx nx ndx ne Q q => by
  cases p with
  | cons p t =>
    cases t
    have p : PlOb K F _ Pl := p
    have xx : Ex H (upd (upd H dx (.own x)) x (.ins C dx [])) := Ex.mut (Ex.mut (Ex.refl H) ndx) nx
    refine ⟨x, dx, _, Pl, rfl, upd_same, p.ex (e.trans xx), hP, hR, fun b l H' ft hc hbl fr hft hfH hrun => ?_⟩
    have eH : Ex H H' := fun a o h => fr a o (fun z => by rw [z, nx] at h; cases h) (xx a o h)
    obtain ⟨px, pdx, pbl, pft, pst, s0, s1, w0, w1, rfl, hIn⟩ := p
    have hIn2 := hIn.ex (e.trans xx)
    obtain rfl : ft = pft := by
      obtain ⟨x, dx, bl, st, e1, e2⟩ := hft
      cases e1
      rw [hIn2.ob] at e2
      cases e2
      rfl
    refine q H' eH fun F' x1 x2 => ⟨(b, l), hc, x, rfl, ?_⟩
    obtain ⟨dx', sl, wl, h1, h2, h3⟩ := hrun
    have big : Ex (nw (wo (upd (upd H dx (.own x)) x (.ins C dx [])) ft) H') F' := by
      refine fun a u h => ?_
      obtain ⟨g1, g2⟩ := nw_is h
      by_cases c : a = ft
      · subst c
        rw [eH _ _ (hIn.ex e).fc] at g2
        rw [x1 _ _ hIn.fc]
        exact g2
      · unfold wo at g1
        rw [if_neg c] at g1
        exact x2 _ _ (nw_of (fresh_back xx g1) g2)
    exact ⟨dx', sl, wl, x2 _ _ (nw_of nx h1), dq_ex big h2, dq_ex big h3⟩
end
def PhAfter (K : PySem.W.Frag) (as : List En) (ψ : FP) : Prop := ∃ z Pl t, Txts z Pl ∧ t ≤ 1000000000000000000 ∧ as = [.fx (Dd K (.str z)), .fx (Dd K (iD t))] ∧ ψ = Dd K (keyP (sitAt Pl (t + 1)))


end SB

set_option maxHeartbeats 4000000
namespace SB
open PySem PySem.Spec PyProof.Rows L2
open TL (tl)
def nmC (nm : List Str) (k : Nat) : List Nat := tl (nm.getD k "")
def lstep (nm : List Str) (k : Nat) (s : Lk) (b : Bool) : List Nat := (if b then nmC nm k ++ [58, 32] else []) ++ tl s.1 ++ (match s.2 with
  | none => []
  | some t => 32 :: nmC nm t) ++ [59]
def lsteps (nm : List Str) : Nat → List Lk → List Bool → List (List Nat)
  | n, s :: r, b :: bs => lstep nm n s b :: lsteps nm (n + 1) r bs
  | _, _, _ => []
def lrob (nm : List Str) (a : Nat) (l : List Lk) (hs : List Bool) : List (List Nat) := (tl ("robot " : Str) ++ TL.numL a ++ [32, 123]) :: (lsteps nm 0 l hs ++ [[125]])
/-- the lines of the loose text after i robots -/
def llines (P : Plm) (nm : List Str) (h0 h1 : List Bool) (i : Nat) : List (List Nat) := hdC P :: ((if 0 < i then lrob nm P.a P.l0 h0 else []) ++ (if 1 < i then lrob nm P.b P.l1 h1 else []))
def looseT (P : Plm) (nm : List Str) (h0 h1 : List Bool) : List Nat := TL.joinL [10] (llines P nm h0 h1 2)
def ltok (nm : List Str) (k : Nat) (s : Lk) (b : Bool) : List (List Nat) := (if b then [nmC nm k, [58]] else []) ++ [tl s.1] ++ (match s.2 with
  | none => []
  | some t => [nmC nm t]) ++ [[59]]
def ltoks (nm : List Str) : Nat → List Lk → List Bool → List (List Nat)
  | n, s :: r, b :: bs => ltok nm n s b ++ ltoks nm (n + 1) r bs
  | _, _, _ => []
def robToks (nm : List Str) (a : Nat) (l : List Lk) (hs : List Bool) : List (List Nat) := [tl ("robot" : Str), TL.numL a, [123]] ++ (ltoks nm 0 l hs ++ [[125]])
def toks (P : Plm) (nm : List Str) (h0 h1 : List Bool) : List (List Nat) := [tl ("shelf" : Str)] ++ P.bx.map TL.numL ++ [[59]] ++ (robToks nm P.a P.l0 h0 ++ robToks nm P.b P.l1 h1)
structure Flags (l : List Lk) (hs : List Bool) : Prop where
  len : hs.length = l.length
  has : ∀ k, some k ∈ l.map (·.2) → hs[k]? = some true
def rows : List Nat → List (List Nat)
  | [] => [[]]
  | c :: r => if c = 10 then [] :: rows r else match rows r with
    | [] => [[c]]
    | f :: t => (c :: f) :: t
theorem rows_cons : ∀ l : List Nat, ∃ f t, rows l = f :: t
  | [] => ⟨[], [], rfl⟩
  | c :: r => by
    obtain ⟨f, t, h⟩ := rows_cons r
    by_cases e : c = 10
    · exact ⟨[], rows r, by simp [rows, e]⟩
    · exact ⟨c :: f, t, by simp [rows, e, h]⟩
theorem rows_line (r : List Nat) : rows (10 :: r) = [] :: rows r := by simp [rows]
theorem rows_sign {c : Nat} {r f : List Nat} {t : List (List Nat)} (h : c ≠ 10) (hr : rows r = f :: t) : rows (c :: r) = (c :: f) :: t := by simp [rows, h, hr]
theorem rows_app {r f : List Nat} {t : List (List Nat)} (hr : rows r = f :: t) : ∀ w : List Nat, (∀ c ∈ w, c ≠ 10) → rows (w ++ r) = (w ++ f) :: t
  | [], _ => hr
  | c :: w, h => rows_sign (h c (List.mem_cons_self ..)) (rows_app hr w fun x hx => h x (List.mem_cons_of_mem _ hx))
theorem spl_rows : ∀ (l acc f : List Nat) (t : List (List Nat)), rows l = f :: t → TL.spl [10] 0 acc l = (acc ++ f) :: t
  | [], acc, f, t, h => by
    obtain ⟨rfl, rfl⟩ : ([] : List Nat) = f ∧ ([] : List (List Nat)) = t := by
      simp [rows] at h
      exact ⟨h.1.symm, h.2.symm⟩
    rw [TL.spl_nil, List.append_nil]
  | c :: r, acc, f, t, h => by
    obtain ⟨g, u, hg⟩ := rows_cons r
    by_cases e : c = 10
    · subst e
      rw [rows_line] at h
      obtain ⟨rfl, rfl⟩ := List.cons.inj h
      rw [TL.spl_hit (by rfl), List.append_nil]
      have := spl_rows r [] g u hg
      rw [List.nil_append] at this
      rw [hg, ← this]
      rfl
    · rw [rows_sign e hg] at h
      obtain ⟨rfl, rfl⟩ := List.cons.inj h
      have hp : TL.pre [10] (c :: r) = false := TL.pre_of_head [] r e
      rw [TL.spl_miss hp, spl_rows r (acc ++ [c]) g u hg, List.append_assoc]
      rfl
theorem split_rows (z : Str) : Txt.split z "\n" = (rows (tl z)).map mkS := by
  have e : tl ("\n" : Str) = [10] := line_s
  apply TL.map_tl_inj
  rw [TL.split_spl z "\n" (by rw [e]; decide) (TL.kind_ok (by decide +kernel)), e, List.map_map]
  obtain ⟨f, t, h⟩ := rows_cons (tl z)
  rw [spl_rows (tl z) [] f t h, List.nil_append, h]
  show f :: t = (f :: t).map fun c => c
  rw [List.map_id']
/-- how a text falls into words -/
inductive Lex : List Nat → List (List Nat) → Prop where
  | nil : Lex [] []
  | blank {l : List Nat} {ws : List (List Nat)} (h : Lex l ws) : Lex (32 :: l) ws
  | line {l : List Nat} {ws : List (List Nat)} (h : Lex l ws) : Lex (10 :: l) ws
  | tok {l w : List Nat} {ws : List (List Nat)} (hw : w ≠ []) (hc : ∀ c ∈ w, c ≠ 10 ∧ c ≠ 32) (hk : (kindOf w).isSome = true) (hl : longest (w ++ l) = w) (h : Lex l ws) : Lex (w ++ l) (w :: ws)
theorem tw_tw {p q : Nat → Bool} (h : ∀ c, p c = true → q c = true) : ∀ l : List Nat, (l.takeWhile q).takeWhile p = l.takeWhile p
  | [] => rfl
  | c :: r => by
    cases hq : q c with
    | true =>
      simp only [List.takeWhile, hq]
      cases hp : p c with
      | true => simp only [tw_tw h r]
      | false => rfl
    | false =>
      have hp : p c = false := by
        cases hp : p c with
        | true => rw [h c hp] at hq; cases hq
        | false => rfl
      simp [List.takeWhile, hq, hp]
theorem rows_head : ∀ (l f : List Nat) (t : List (List Nat)), rows l = f :: t → f = l.takeWhile (fun c => c != 10)
  | [], f, t, h => by
    simp [rows] at h
    rw [h.1]
    rfl
  | c :: r, f, t, h => by
    obtain ⟨g, u, hg⟩ := rows_cons r
    by_cases e : c = 10
    · subst e
      rw [rows_line] at h
      obtain ⟨rfl, _⟩ := List.cons.inj h
      rfl
    · rw [rows_sign e hg] at h
      obtain ⟨rfl, _⟩ := List.cons.inj h
      have hb : (c != 10) = true := by simp [e]
      rw [rows_head r g u hg]
      simp [List.takeWhile, hb]
theorem longest_row {l : List Nat} : longest (l.takeWhile (fun c => c != 10)) = (if l.head? = some 10 then [] else longest l) := by
  have pL : ∀ c, isL c = true → (c != 10) = true := fun c h => by
    unfold isL at h
    simp at h ⊢
    omega
  have pD : ∀ c, isD c = true → (c != 10) = true := fun c h => by
    unfold isD at h
    simp at h ⊢
    omega
  cases l with
  | nil => rfl
  | cons c r =>
    by_cases e : c = 10
    · subst e
      rfl
    · have hb : (c != 10) = true := by simp [e]
      have hn : ¬ ((c :: r).head? = some 10) := by
        intro z
        exact e (Option.some.inj z)
      rw [if_neg hn]
      unfold longest
      rw [tw_tw pL, tw_tw pD]
      have : ((c :: r).takeWhile (fun c => c != 10)).take 1 = (c :: r).take 1 := by simp [List.takeWhile, hb]
      rw [this]
/-- kind and text -/
def kt (t : Tk) : Str × List Nat := (t.kind, tl t.text)
def kw (w : List Nat) : Str × List Nat := ((kindOf w).getD "", w)
theorem rows_read {g : List Nat} {u : List (List Nat)} {line : Nat} {ts0 ts1 : List Tk} (h0 : readRow g.length g line 0 = .ok ts0) (h1 : readRows (u.map mkS) (line + 1) = .ok ts1) : readRows ((g :: u).map mkS) line = .ok (ts0 ++ ts1) := by
  rw [List.map_cons]
  unfold readRows
  rw [mkS_len, tl_mkS, h0]
  show withFront ts0 (readRows (u.map mkS) (line + 1)) = _
  rw [h1]
  rfl
theorem lex_row : ∀ {l : List Nat} {ws : List (List Nat)}, Lex l ws → ∀ (f : List Nat) (t : List (List Nat)), rows l = f :: t → ∀ line col, ∃ ts0 ts1, (∀ n, f.length ≤ n → readRow n f line col = .ok ts0) ∧ readRows (t.map mkS) (line + 1) = .ok ts1 ∧ (ts0 ++ ts1).map kt = ws.map kw
  | _, _, .nil, f, t, h, line, col => by
    simp [rows] at h
    obtain ⟨rfl, rfl⟩ := h
    exact ⟨[], [], fun n _ => readRow_nil n line col, rfl, rfl⟩
  | _, _, .blank (l := l) h, f, t, hr, line, col => by
    obtain ⟨g, u, hg⟩ := rows_cons l
    rw [rows_sign (by decide) hg] at hr
    obtain ⟨rfl, rfl⟩ := List.cons.inj hr
    obtain ⟨ts0, ts1, h0, h1, h2⟩ := lex_row h g u hg line (col + 1)
    refine ⟨ts0, ts1, fun n hn => ?_, h1, h2⟩
    cases n with
    | zero => simp at hn
    | succ n =>
      rw [readRow_blank]
      exact h0 n (by simpa using hn)
  | _, _, .line (l := l) h, f, t, hr, line, col => by
    obtain ⟨g, u, hg⟩ := rows_cons l
    rw [rows_line, hg] at hr
    obtain ⟨rfl, rfl⟩ := List.cons.inj hr
    obtain ⟨ts0, ts1, h0, h1, h2⟩ := lex_row h g u hg (line + 1) 0
    refine ⟨[], ts0 ++ ts1, fun n _ => readRow_nil n line col, ?_, h2⟩
    exact rows_read (h0 g.length (Nat.le_refl _)) h1
  | _, _, .tok (l := l) (w := w) (ws := ws) hw hc hk hl h, f, t, hr, line, col => by
    obtain ⟨g, u, hg⟩ := rows_cons l
    have hx := rows_app hg w fun c hcw => (hc c hcw).1
    rw [hx] at hr
    obtain ⟨rfl, rfl⟩ := List.cons.inj hr
    obtain ⟨ts0, ts1, h0, h1, h2⟩ := lex_row h g u hg line (col + w.length)
    have eg : w ++ g = (w ++ l).takeWhile (fun c => c != 10) := rows_head _ _ _ hx
    have hlg : longest (w ++ g) = w := by
      rw [eg, longest_row, hl]
      cases w with
      | nil => exact absurd rfl hw
      | cons c r =>
        have : ¬ ((c :: r ++ l).head? = some 10) := fun z => (hc c (List.mem_cons_self ..)).1 (Option.some.inj z)
        rw [if_neg this]
    cases w with
    | nil => exact absurd rfl hw
    | cons c r =>
      obtain ⟨k, hk'⟩ := Option.isSome_iff_exists.mp hk
      refine ⟨⟨k, mkS (c :: r), line, col⟩ :: ts0, ts1, fun n hn => ?_, h1, ?_⟩
      · cases n with
        | zero => simp at hn
        | succ n =>
          have := readRow_tok (n := n) (c := c) (r := r ++ g) (line := line) (col := col) (k := k) (hc c (List.mem_cons_self ..)).2 (by rw [← List.cons_append, hlg]; exact hk')
          rw [← List.cons_append, hlg, List.drop_left, h0 n (by simp at hn; omega)] at this
          exact this
      · show kt ⟨k, mkS (c :: r), line, col⟩ :: (ts0 ++ ts1).map kt = kw (c :: r) :: ws.map kw
        rw [h2]
        show (k, (c :: r)) :: _ = ((kindOf (c :: r)).getD "", (c :: r)) :: _
        rw [hk']
        rfl
/-- a text that falls into words is lexed -/
theorem lex_all {z : Str} {ws : List (List Nat)} (h : Lex (tl z) ws) : ∃ ts n, lexAll z = .ok (ts ++ [endTk n]) ∧ ts.map kt = ws.map kw := by
  obtain ⟨f, t, hr⟩ := rows_cons (tl z)
  obtain ⟨ts0, ts1, h0, h1, h2⟩ := lex_row h f t hr 0 0
  refine ⟨ts0 ++ ts1, (Txt.split z "\n").length, ?_, h2⟩
  have e : readRows (Txt.split z "\n") 0 = .ok (ts0 ++ ts1) := by
    rw [split_rows, hr]
    exact rows_read (h0 f.length (Nat.le_refl _)) h1
  unfold lexAll
  rw [e]
structure Nm (nm : List Str) : Prop where
  len : nm.length = 20
  inj : ∀ i j, i < 20 → j < 20 → nmC nm i = nmC nm j → i = j
  kind : ∀ i, i < 20 → kw (nmC nm i) = (("name" : Str), nmC nm i)
theorem kt_drop {ts : List Tk} {i : Nat} {k : Str} {x : List Nat} {r : List (Str × List Nat)} (h : (ts.drop i).map kt = (k, x) :: r) : ∃ t, ts[i]? = some t ∧ t.kind = k ∧ tl t.text = x ∧ (ts.drop (i + 1)).map kt = r := by
  cases q : ts[i]? with
  | none =>
    rw [List.drop_eq_nil_of_le (List.getElem?_eq_none_iff.mp q)] at h
    cases h
  | some t =>
    obtain ⟨hi, e⟩ := List.getElem?_eq_some_iff.mp q
    rw [List.drop_eq_getElem_cons hi, e, List.map_cons] at h
    obtain ⟨h1, h2⟩ := List.cons.inj h
    have a := congrArg Prod.fst h1
    have b := congrArg Prod.snd h1
    exact ⟨t, rfl, a, b, h2⟩
theorem takeK_has {ks : List Str} {ts : List Tk} {i : Nat} {k : Str} {x : List Nat} {r : List (Str × List Nat)} (h : (ts.drop i).map kt = (k, x) :: r) (hk : k ∈ ks) : ∃ t, takeK ks ts i = .ok (t, i + 1) ∧ t.kind = k ∧ tl t.text = x ∧ (ts.drop (i + 1)).map kt = r := by
  obtain ⟨t, h1, h2, h3, h4⟩ := kt_drop h
  refine ⟨t, ?_, h2, h3, h4⟩
  unfold takeK
  rw [h1]
  dsimp only
  rw [if_pos (decide_eq_true (h2 ▸ hk))]
theorem kindAt_has {ts : List Tk} {i : Nat} {k : Str} {x : List Nat} {r : List (Str × List Nat)} (h : (ts.drop i).map kt = (k, x) :: r) : kindAt ts i = k := by
  obtain ⟨t, h1, h2, h3, h4⟩ := kt_drop h
  unfold kindAt
  rw [h1]
  exact h2
theorem at_ok {α β : Type} {r : PR α} {f : α → Nat → PR β} {a : α} {i : Nat} (h : r = .ok (a, i)) : andThen r f = f a i := by
  rw [h]
  rfl
/-- a step that was read for s -/
structure SOk (nm : List Str) (n : Nat) (s : Lk) (b : Bool) (st : StepM) : Prop where
  lab : (st.label.map fun t => tl t.text) = if b then some (nmC nm n) else none
  cmd : st.command.text = s.1
  tgt : (st.target.map fun t => tl t.text) = s.2.map (nmC nm)
theorem kw_cmd {w : Str} (h : w ∈ commands) : kw (tl w) = (w, tl w) := by
  have : ∀ w ∈ commands, kw (tl w) = (w, tl w) := by decide +kernel
  exact this w h
theorem kw_colon : kw [58] = ((":" : Str), [58]) := by decide +kernel
theorem kw_semi : kw [59] = ((";" : Str), [59]) := by decide +kernel
theorem kw_open : kw [123] = (("{" : Str), [123]) := by decide +kernel
theorem kw_close : kw [125] = (("}" : Str), [125]) := by decide +kernel
theorem kw_robot : kw (tl ("robot" : Str)) = (("robot" : Str), tl ("robot" : Str)) := by decide +kernel
theorem kw_shelf : kw (tl ("shelf" : Str)) = (("shelf" : Str), tl ("shelf" : Str)) := by decide +kernel
theorem kw_num {n : Nat} (h : n < 12) : kw (TL.numL n) = (("number" : Str), TL.numL n) := by
  have : ∀ n < 12, kw (TL.numL n) = (("number" : Str), TL.numL n) := by decide +kernel
  exact this n h
theorem takeLabel_has {nm : List Str} (hn : Nm nm) {ts : List Tk} {i n : Nat} {s : Lk} {b : Bool} {r : List (Str × List Nat)} (h8 : n < 20) (hc : s.1 ∈ commands) (h : (ts.drop i).map kt = (if b then [nmC nm n, [58]] else []).map kw ++ ((s.1, tl s.1) :: r)) :
    ∃ o j, takeLabel ts i = .ok (o, j) ∧ (o.map fun t => tl t.text) = (if b then some (nmC nm n) else none) ∧ (ts.drop j).map kt = (s.1, tl s.1) :: r := by
  cases b with
  | true =>
    have h' : (ts.drop i).map kt = (("name" : Str), nmC nm n) :: ((":" : Str), [58]) :: (s.1, tl s.1) :: r := by
      rw [h]
      show kw (nmC nm n) :: kw [58] :: _ = _
      rw [hn.kind n h8, kw_colon]
      rfl
    obtain ⟨t, h1, h2, h3, h4⟩ := takeK_has (ks := ["name"]) h' (List.mem_singleton.mpr rfl)
    obtain ⟨t2, h5, h6, h7, h9⟩ := takeK_has (ks := [":"]) h4 (List.mem_singleton.mpr rfl)
    refine ⟨some t, i + 1 + 1, ?_, ?_, h9⟩
    · unfold takeLabel
      rw [if_pos (kindAt_has h'), at_ok h1, at_ok h5]
    · show some (tl t.text) = some (nmC nm n)
      rw [h3]
  | false =>
    have h' : (ts.drop i).map kt = (s.1, tl s.1) :: r := h
    refine ⟨none, i, ?_, rfl, h'⟩
    unfold takeLabel
    rw [if_neg]
    rw [kindAt_has h']
    have : ∀ w ∈ commands, ¬ (w = ("name" : Str)) := by decide +kernel
    exact this _ hc
theorem takeStep_has {nm : List Str} (hn : Nm nm) {ts : List Tk} {i n : Nat} {s : Lk} {b : Bool} {r : List (Str × List Nat)} (h8 : n < 20) (hc : s.1 ∈ commands) (ht : ∀ t, s.2 = some t → t < 20) (hw : s.2.isSome = decide (s.1 ∈ jumps)) (h : (ts.drop i).map kt = (ltok nm n s b).map kw ++ r) :
    ∃ st j, takeStep ts i = .ok (st, j) ∧ SOk nm n s b st ∧ (ts.drop j).map kt = r := by
  have h' : (ts.drop i).map kt = (if b then [nmC nm n, [58]] else []).map kw ++ ((s.1, tl s.1) :: ((match s.2 with | none => [] | some t => [nmC nm t]).map kw ++ (((";" : Str), [59]) :: r))) := by
    rw [h]
    unfold ltok
    simp only [List.map_append, List.map_cons, List.map_nil, List.append_assoc, List.cons_append, List.nil_append, kw_cmd hc, kw_semi]
    all_goals rfl
  obtain ⟨o, j, e1, e2, e3⟩ := takeLabel_has hn h8 hc h'
  obtain ⟨c, e4, e5, e6, e7⟩ := takeK_has (ks := commands) e3 hc
  have ec : c.text = s.1 := tl_inj e6
  have tgt : ∃ tg m, takeTarget c ts (j + 1) = .ok (tg, m) ∧ (tg.map fun t => tl t.text) = s.2.map (nmC nm) ∧ (ts.drop m).map kt = ((";" : Str), [59]) :: r := by
    unfold takeTarget
    rw [e5, ← hw]
    cases q : s.2 with
    | none =>
      rw [q] at e7
      exact ⟨none, j + 1, rfl, rfl, e7⟩
    | some t =>
      rw [q] at e7
      have e7' : (ts.drop (j + 1)).map kt = (("name" : Str), nmC nm t) :: ((";" : Str), [59]) :: r := by
        rw [e7]
        show kw (nmC nm t) :: _ = _
        rw [hn.kind t (ht t q)]
        rfl
      obtain ⟨u, u1, u2, u3, u4⟩ := takeK_has (ks := ["name"]) e7' (List.mem_singleton.mpr rfl)
      refine ⟨some u, j + 1 + 1, ?_, ?_, u4⟩
      · show (if true = true then _ else _) = _
        rw [if_pos rfl, at_ok u1]
      · show some (tl u.text) = some (nmC nm t)
        rw [u3]
  obtain ⟨tg, m, g1, g2, g3⟩ := tgt
  obtain ⟨z, z1, z2, z3, z4⟩ := takeK_has (ks := [";"]) g3 (List.mem_singleton.mpr rfl)
  refine ⟨⟨o, c, tg⟩, m + 1, ?_, ⟨e2, ec, g2⟩, z4⟩
  unfold takeStep
  rw [at_ok e1, at_ok e4, at_ok g1, at_ok z1]
/-- steps that were read -/
def SR (nm : List Str) : Nat → List Lk → List Bool → List StepM → Prop
  | n, s :: l, b :: hs, st :: ss => SOk nm n s b st ∧ SR nm (n + 1) l hs ss
  | _, [], [], [] => True
  | _, _, _, _ => False
theorem takeSteps_has {nm : List Str} (hn : Nm nm) {ts : List Tk} {r : List (Str × List Nat)} : ∀ (l : List Lk) (hs : List Bool) (n i fuel : Nat), hs.length = l.length → n + l.length ≤ 20 → (∀ s ∈ l, s.1 ∈ commands) → (∀ s ∈ l, ∀ t, s.2 = some t → t < 20) → (∀ s ∈ l, s.2.isSome = decide (s.1 ∈ jumps)) → l.length < fuel →
    (ts.drop i).map kt = (ltoks nm n l hs).map kw ++ ((("}" : Str), [125]) :: r) → ∃ ss j, takeSteps fuel ts i = .ok (ss, j) ∧ SR nm n l hs ss ∧ (ts.drop j).map kt = (("}" : Str), [125]) :: r
  | [], [], n, i, fuel + 1, _, _, _, _, _, _, h => by
    have h' : (ts.drop i).map kt = (("}" : Str), [125]) :: r := h
    refine ⟨[], i, ?_, trivial, h'⟩
    unfold takeSteps
    rw [if_pos (kindAt_has h')]
  | [], _ :: _, _, _, _, hl, _, _, _, _, _, _ => by cases hl
  | _ :: _, [], _, _, _, hl, _, _, _, _, _, _ => by cases hl
  | _, _, _, _, 0, _, _, _, _, _, hf, _ => absurd hf (Nat.not_lt_zero _)
  | s :: l, b :: hs, n, i, fuel + 1, hl, h8, hc, ht, hw, hf, h => by
    simp only [List.length_cons] at h8 hf hl
    have hcs := hc s (List.mem_cons_self ..)
    have h' : (ts.drop i).map kt = (ltok nm n s b).map kw ++ ((ltoks nm (n + 1) l hs).map kw ++ ((("}" : Str), [125]) :: r)) := by
      rw [h]
      show ((ltok nm n s b) ++ ltoks nm (n + 1) l hs).map kw ++ _ = _
      rw [List.map_append, List.append_assoc]
    obtain ⟨st, j, e1, e2, e3⟩ := takeStep_has hn (by omega) hcs (ht s (List.mem_cons_self ..)) (hw s (List.mem_cons_self ..)) h'
    obtain ⟨ss, m, f1, f2, f3⟩ := takeSteps_has hn l hs (n + 1) j fuel (by omega) (by omega) (fun x hx => hc x (List.mem_cons_of_mem _ hx)) (fun x hx => ht x (List.mem_cons_of_mem _ hx)) (fun x hx => hw x (List.mem_cons_of_mem _ hx)) (by omega) e3
    refine ⟨st :: ss, m, ?_, ⟨e2, f2⟩, f3⟩
    unfold takeSteps
    rw [if_neg, at_ok e1, at_ok f1]
    have nk : ∀ k x rr, (ts.drop i).map kt = (k, x) :: rr → k ≠ "}" → ¬ (kindAt ts i = "}") := fun k x rr hh hk => by
      rw [kindAt_has hh]
      exact hk
    cases b with
    | true =>
      refine nk "name" (nmC nm n) ?_ ?_ (by decide +kernel)
      · exact ((":" : Str), [58]) :: ((kw (tl s.1)) :: ((match s.2 with | none => [] | some t => [nmC nm t]).map kw ++ (((";" : Str), [59]) :: ((ltoks nm (n + 1) l hs).map kw ++ ((("}" : Str), [125]) :: r)))))
      · rw [h']
        unfold ltok
        simp only [List.map_append, List.map_cons, List.map_nil, List.append_assoc, List.cons_append, List.nil_append, kw_semi, if_true, hn.kind n (by omega), kw_colon]
        all_goals rfl
    | false =>
      have nb : ∀ w ∈ commands, w ≠ ("}" : Str) := by decide +kernel
      refine nk s.1 (tl s.1) ?_ ?_ (nb _ hcs)
      · exact ((match s.2 with | none => [] | some t => [nmC nm t]).map kw ++ (((";" : Str), [59]) :: ((ltoks nm (n + 1) l hs).map kw ++ ((("}" : Str), [125]) :: r))))
      · rw [h']
        unfold ltok
        simp only [List.map_append, List.map_cons, List.map_nil, List.append_assoc, List.cons_append, List.nil_append, kw_semi, kw_cmd hcs, Bool.false_eq_true, if_false]
        all_goals rfl
theorem ltoks_ge (nm : List Str) : ∀ (l : List Lk) (n : Nat) (hs : List Bool), hs.length = l.length → l.length ≤ (ltoks nm n l hs).length
  | [], _, _, _ => Nat.zero_le _
  | s :: l, n, [], h => by cases h
  | s :: l, n, b :: hs, h => by
    have := ltoks_ge nm l (n + 1) hs (Nat.succ.inj h)
    show l.length + 1 ≤ (ltok nm n s b ++ ltoks nm (n + 1) l hs).length
    have h2 : 1 ≤ (ltok nm n s b).length := by
      unfold ltok
      simp only [List.length_append, List.length_cons, List.length_nil]
      omega
    rw [List.length_append]
    omega
theorem takeRobot_has {nm : List Str} (hn : Nm nm) {ts : List Tk} {r : List (Str × List Nat)} {a i : Nat} {l : List Lk} {hs : List Bool} (ha : a < 12) (hD : StepsOk l) (hl : hs.length = l.length) (hts : l.length ≤ ts.length)
    (h : (ts.drop i).map kt = (robToks nm a l hs).map kw ++ r) : ∃ rb j, takeRobot ts i = .ok (rb, j) ∧ rb.start.text = numS a ∧ SR nm 0 l hs rb.steps ∧ (ts.drop j).map kt = r := by
  have h' : (ts.drop i).map kt = (("robot" : Str), tl ("robot" : Str)) :: (("number" : Str), TL.numL a) :: (("{" : Str), [123]) :: ((ltoks nm 0 l hs).map kw ++ ((("}" : Str), [125]) :: r)) := by
    rw [h]
    unfold robToks
    simp only [List.map_append, List.map_cons, List.map_nil, List.append_assoc, List.cons_append, List.nil_append, kw_robot, kw_num ha, kw_open, kw_close]
  have h8 := hD.hi
  obtain ⟨t1, a1, a2, a3, a4⟩ := takeK_has (ks := ["robot"]) h' (List.mem_singleton.mpr rfl)
  obtain ⟨t2, b1, b2, b3, b4⟩ := takeK_has (ks := ["number"]) a4 (List.mem_singleton.mpr rfl)
  obtain ⟨t3, c1, c2, c3, c4⟩ := takeK_has (ks := ["{"]) b4 (List.mem_singleton.mpr rfl)
  have ht : ∀ s ∈ l, ∀ t, s.2 = some t → t < 20 := fun s hs t e => Nat.lt_of_lt_of_le (hD.tgt s hs t e) h8
  cases l with
  | nil => exact absurd hD.lo (by decide)
  | cons s l =>
    cases hs with
    | nil => cases hl
    | cons b hs =>
      simp only [List.length_cons] at h8 hl hts
      have hcs := hD.cmd s (List.mem_cons_self ..)
      have c4' : (ts.drop (i + 1 + 1 + 1)).map kt = (ltok nm 0 s b).map kw ++ ((ltoks nm 1 l hs).map kw ++ ((("}" : Str), [125]) :: r)) := by
        rw [c4]
        show ((ltok nm 0 s b) ++ ltoks nm 1 l hs).map kw ++ _ = _
        rw [List.map_append, List.append_assoc]
      obtain ⟨st, j, e1, e2, e3⟩ := takeStep_has hn (by decide) hcs (ht s (List.mem_cons_self ..)) (hD.way s (List.mem_cons_self ..)) c4'
      obtain ⟨ss, m, f1, f2, f3⟩ := takeSteps_has hn l hs 1 j (ts.length + 1) (by omega) (by omega) (fun x hx => hD.cmd x (List.mem_cons_of_mem _ hx)) (fun x hx => ht x (List.mem_cons_of_mem _ hx)) (fun x hx => hD.way x (List.mem_cons_of_mem _ hx)) (by omega) e3
      obtain ⟨t4, d1, d2, d3, d4⟩ := takeK_has (ks := ["}"]) f3 (List.mem_singleton.mpr rfl)
      refine ⟨⟨t2, st :: ss⟩, m + 1, ?_, tl_inj (b3.trans (numS_tl a).symm), ⟨e2, f2⟩, d4⟩
      unfold takeRobot
      rw [at_ok a1, at_ok b1, at_ok c1, at_ok e1, at_ok f1, at_ok d1]
theorem takeNums_has {ts : List Tk} {r : List (Str × List Nat)} : ∀ (ns : List Nat) (i fuel : Nat), (∀ n ∈ ns, n < 12) → ns.length < fuel → (ts.drop i).map kt = (ns.map TL.numL).map kw ++ (((";" : Str), [59]) :: r) →
    ∃ tt j, takeNums fuel ts i = .ok (tt, j) ∧ tt.map (·.text) = ns.map numS ∧ (ts.drop j).map kt = ((";" : Str), [59]) :: r
  | _, _, 0, _, hf, _ => absurd hf (Nat.not_lt_zero _)
  | [], i, fuel + 1, _, _, h => by
    have h' : (ts.drop i).map kt = ((";" : Str), [59]) :: r := h
    refine ⟨[], i, ?_, rfl, h'⟩
    unfold takeNums
    rw [if_neg]
    rw [kindAt_has h']
    decide +kernel
  | n :: ns, i, fuel + 1, hn, hf, h => by
    have h' : (ts.drop i).map kt = (("number" : Str), TL.numL n) :: ((ns.map TL.numL).map kw ++ (((";" : Str), [59]) :: r)) := by
      rw [h]
      show kw (TL.numL n) :: _ = _
      rw [kw_num (hn n (List.mem_cons_self ..))]
      rfl
    obtain ⟨t, e1, e2, e3, e4⟩ := takeK_has (ks := ["number"]) h' (List.mem_singleton.mpr rfl)
    simp only [List.length_cons] at hf
    obtain ⟨tt, j, f1, f2, f3⟩ := takeNums_has ns (i + 1) fuel (fun x hx => hn x (List.mem_cons_of_mem _ hx)) (by omega) e4
    refine ⟨t :: tt, j, ?_, ?_, f3⟩
    · unfold takeNums
      rw [if_pos (kindAt_has h'), at_ok e1, at_ok f1]
    · show t.text :: tt.map (·.text) = numS n :: ns.map numS
      rw [f2, tl_inj (e3.trans (numS_tl n).symm)]
/-- the whole plan is parsed -/
theorem takePlan_has {nm : List Str} (hn : Nm nm) {P : Plm} (hP : PlanOk P) {h0 h1 : List Bool} (hl0 : h0.length = P.l0.length) (hl1 : h1.length = P.l1.length) {ts : List Tk} {n : Nat} (h : ts.map kt = (toks P nm h0 h1).map kw) :
    ∃ p j r0 r1, takePlan (ts ++ [endTk n]) 0 = .ok (p, j) ∧ p.numbers.map (·.text) = P.bx.map numS ∧ p.robots = [r0, r1] ∧ r0.start.text = numS P.a ∧ r1.start.text = numS P.b ∧ SR nm 0 P.l0 h0 r0.steps ∧ SR nm 0 P.l1 h1 r1.steps := by
  have hi := hP.hi
  have lo := hP.lo
  have la := hP.la
  have lb := hP.lb
  obtain ⟨b0, bs, hbx⟩ : ∃ b0 bs, P.bx = b0 :: bs := by
    cases q : P.bx with
    | nil => rw [q] at lo; exact absurd lo (by decide)
    | cons a b => exact ⟨a, b, rfl⟩
  have hall : P.bx.length ≤ (ts ++ [endTk n]).length ∧ P.l0.length ≤ (ts ++ [endTk n]).length ∧ P.l1.length ≤ (ts ++ [endTk n]).length := by
    have := congrArg List.length h
    rw [List.length_map, List.length_map] at this
    rw [List.length_append, this]
    have g0 := ltoks_ge nm P.l0 0 h0 hl0
    have g1 := ltoks_ge nm P.l1 0 h1 hl1
    unfold toks robToks
    simp only [List.length_append, List.length_cons, List.length_nil, List.length_map]
    omega
  have hlen2 : bs.length < (ts ++ [endTk n]).length + 1 := by
    have := hall.1
    rw [hbx, List.length_cons] at this
    omega
  have hmost : ∀ m ∈ P.bx, m < 12 := fun m hm => by
    have := hP.most m hm
    omega
  have h' : ((ts ++ [endTk n]).drop 0).map kt = (("shelf" : Str), tl ("shelf" : Str)) :: (("number" : Str), TL.numL b0) :: ((bs.map TL.numL).map kw ++ (((";" : Str), [59]) :: ((robToks nm P.a P.l0 h0).map kw ++ ((robToks nm P.b P.l1 h1).map kw ++ [(("end" : Str), [])])))) := by
    rw [List.drop_zero, List.map_append, h]
    unfold toks
    rw [hbx]
    simp only [List.map_append, List.map_cons, List.map_nil, List.append_assoc, List.cons_append, List.nil_append, kw_shelf, kw_num (hmost b0 (hbx ▸ List.mem_cons_self ..)), kw_semi]
    rfl
  obtain ⟨t1, a1, a2, a3, a4⟩ := takeK_has (ks := ["shelf"]) h' (List.mem_singleton.mpr rfl)
  obtain ⟨t2, b1, b2, b3, b4⟩ := takeK_has (ks := ["number"]) a4 (List.mem_singleton.mpr rfl)
  obtain ⟨tt, j, c1, c2, c3⟩ := takeNums_has bs (0 + 1 + 1) ((ts ++ [endTk n]).length + 1) (fun m hm => hmost m (hbx ▸ List.mem_cons_of_mem _ hm)) hlen2 b4
  obtain ⟨t3, d1, d2, d3, d4⟩ := takeK_has (ks := [";"]) c3 (List.mem_singleton.mpr rfl)
  obtain ⟨r0, m0, e1, e2, e3, e4⟩ := takeRobot_has hn (by omega) hP.k0 hl0 hall.2.1 d4
  obtain ⟨r1, m1, f1, f2, f3, f4⟩ := takeRobot_has hn (by omega) hP.k1 hl1 hall.2.2 e4
  obtain ⟨t4, g1, g2, g3, g4⟩ := takeK_has (ks := ["end"]) f4 (List.mem_singleton.mpr rfl)
  refine ⟨⟨t1, t2 :: tt, [r0, r1]⟩, m1 + 1, r0, r1, ?_, ?_, rfl, e2, f2, e3, f3⟩
  · unfold takePlan
    rw [at_ok a1, at_ok b1, at_ok c1, at_ok d1, at_ok e1, at_ok f1, at_ok g1]
  · show t2.text :: tt.map (·.text) = _
    rw [hbx, c2, tl_inj (b3.trans (numS_tl b0).symm)]
    rfl
theorem SOk.label {nm : List Str} {n : Nat} {s : Lk} {b : Bool} {st : StepM} (h : SOk nm n s b st) : (st.label.map fun t => t.text) = if b then some (mkS (nmC nm n)) else none := by
  have e := h.lab
  cases q : st.label with
  | none =>
    rw [q] at e
    cases b with
    | true => cases e
    | false => rfl
  | some t =>
    rw [q] at e
    cases b with
    | true =>
      have e2 : tl t.text = nmC nm n := Option.some.inj e
      show some t.text = some (mkS (nmC nm n))
      rw [← e2, mkS_tl]
    | false => cases e
theorem SR_get {nm : List Str} : ∀ (l : List Lk) (hs : List Bool) (ss : List StepM) (n i : Nat) (st : StepM), SR nm n l hs ss → ss[i]? = some st → ∃ s b, l[i]? = some s ∧ hs[i]? = some b ∧ SOk nm (n + i) s b st
  | s :: l, b :: hs, st' :: ss, n, 0, st, h, hg => by
    obtain rfl : st' = st := Option.some.inj hg
    exact ⟨s, b, rfl, rfl, h.1⟩
  | s :: l, b :: hs, st' :: ss, n, i + 1, st, h, hg => by
    obtain ⟨s', b', h1, h2, h3⟩ := SR_get l hs ss (n + 1) i st h.2 hg
    exact ⟨s', b', h1, h2, by rw [show n + (i + 1) = n + 1 + i by omega]; exact h3⟩
  | [], [], [], n, i, st, h, hg => by simp at hg
  | [], [], _ :: _, _, _, _, h, _ => h.elim
  | [], _ :: _, _, _, _, _, h, _ => h.elim
  | _ :: _, [], _, _, _, _, h, _ => h.elim
  | _ :: _, _ :: _, [], _, _, _, h, _ => h.elim
theorem SR_len {nm : List Str} : ∀ (l : List Lk) (hs : List Bool) (ss : List StepM) (n : Nat), SR nm n l hs ss → ss.length = l.length
  | s :: l, b :: hs, st' :: ss, n, h => by
    show ss.length + 1 = l.length + 1
    rw [SR_len l hs ss (n + 1) h.2]
  | [], [], [], n, h => rfl
  | [], [], _ :: _, _, h => h.elim
  | [], _ :: _, _, _, h => h.elim
  | _ :: _, [], _, _, h => h.elim
  | _ :: _, _ :: _, [], _, h => h.elim
theorem labIx_SR {nm : List Str} (hn : Nm nm) : ∀ (l : List Lk) (hs : List Bool) (ss : List StepM) (n k : Nat), SR nm n l hs ss → n + l.length ≤ 20 → k < l.length → hs[k]? = some true → labIx ss (mkS (nmC nm (n + k))) n = some (n + k)
  | s :: l, b :: hs, st :: ss, n, 0, h, _, _, hk => by
    obtain rfl : b = true := Option.some.inj hk
    unfold labIx
    rw [h.1.label, if_pos rfl, Nat.add_zero, if_pos rfl]
  | s :: l, b :: hs, st :: ss, n, k + 1, h, h8, hkl, hk => by
    simp only [List.length_cons] at h8 hkl
    have ih := labIx_SR hn l hs ss (n + 1) k h.2 (by omega) (by omega) hk
    unfold labIx
    rw [h.1.label, if_neg, show n + (k + 1) = n + 1 + k by omega]
    · exact ih
    · cases b with
      | false => intro z; cases z
      | true =>
        intro z
        have e := mkS_inj (Option.some.inj z)
        have := hn.inj n (n + (k + 1)) (by omega) (by omega) e
        omega
  | [], [], [], _, _, _, _, hkl, _ => by simp at hkl
  | [], [], _ :: _, _, _, h, _, _, _ => h.elim
  | [], _ :: _, _, _, _, h, _, _, _ => h.elim
  | _ :: _, [], _, _, _, h, _, _, _ => h.elim
  | _ :: _, _ :: _, [], _, _, h, _, _, _ => h.elim
section
variable {nm : List Str} (hn : Nm nm) {l : List Lk} {hs : List Bool} {ss : List StepM} (hD : StepsOk l) (hf : Flags l hs) (h : SR nm 0 l hs ss)
include hn hD hf h
theorem SR_tgt {st : StepM} {t : Tk} {i : Nat} (hg : ss[i]? = some st) (ht : st.target = some t) : ∃ s m, l[i]? = some s ∧ s.2 = some m ∧ labIx ss t.text 0 = some m := by
  obtain ⟨s, b, h1, h2, h3⟩ := SR_get l hs ss 0 i st h hg
  have e := h3.tgt
  rw [ht] at e
  cases q : s.2 with
  | none => rw [q] at e; cases e
  | some m =>
    rw [q] at e
    have e2 : tl t.text = nmC nm m := Option.some.inj e
    have hm := hD.tgt s (List.mem_of_getElem? h1) m q
    have hmem : some m ∈ l.map (·.2) := List.mem_map.mpr ⟨s, List.mem_of_getElem? h1, q⟩
    have h8 := hD.hi
    have := labIx_SR hn l hs ss 0 m h (by omega) hm (hf.has m hmem)
    rw [Nat.zero_add] at this
    refine ⟨s, m, h1, q, ?_⟩
    rw [← mkS_tl t.text, e2]
    exact this
theorem SR_valid : ValidS ss := by
  have h8 := hD.hi
  have hl := SR_len l hs ss 0 h
  refine ⟨by omega, fun i st t hg ht => ?_, fun st t hm ht => ?_⟩
  · obtain ⟨s, b, h1, h2, h3⟩ := SR_get l hs ss 0 i st h hg
    have e := h3.label
    rw [ht] at e
    cases b with
    | false => cases e
    | true =>
      have e2 : t.text = mkS (nmC nm (0 + i)) := Option.some.inj e
      have := labIx_SR hn l hs ss 0 i h (by omega) (List.getElem?_eq_some_iff.mp h1).1 h2
      rw [e2]
      rw [Nat.zero_add] at this ⊢
      exact this
  · obtain ⟨i, hg⟩ := List.mem_iff_getElem?.mp hm
    obtain ⟨s, m, _, _, e⟩ := SR_tgt hn hD hf h hg ht
    exact ⟨m, e⟩
theorem SR_linked : l = linked ss := by
  have hl := SR_len l hs ss 0 h
  apply List.ext_getElem?
  intro i
  show l[i]? = (ss.map (linkOf ss))[i]?
  rw [List.getElem?_map]
  cases q : ss[i]? with
  | none =>
    have := List.getElem?_eq_none_iff.mp q
    rw [List.getElem?_eq_none (by omega)]
    rfl
  | some st =>
    obtain ⟨s, b, h1, h2, h3⟩ := SR_get l hs ss 0 i st h q
    rw [h1]
    show some s = some (linkOf ss st)
    unfold linkOf
    rw [h3.cmd]
    congr 1
    cases r : st.target with
    | none =>
      have e := h3.tgt
      rw [r] at e
      cases w : s.2 with
      | none =>
        obtain ⟨a, c⟩ := s
        cases w
        rfl
      | some m => rw [w] at e; cases e
    | some t =>
      obtain ⟨s', m, k1, k2, k3⟩ := SR_tgt hn hD hf h q r
      obtain rfl : s = s' := Option.some.inj (h1.symm.trans k1)
      show s = (s.1, labIx ss t.text 0)
      rw [k3, ← k2]
end
theorem reads_of {nm : List Str} (hn : Nm nm) {P : Plm} (hP : PlanOk P) {h0 h1 : List Bool} (f0 : Flags P.l0 h0) (f1 : Flags P.l1 h1) {z : Str} (hx : Lex (tl z) (toks P nm h0 h1)) (hz : z.length + 10 ≤ big) : Reads z P := by
  obtain ⟨ts, n, e1, e2⟩ := lex_all hx
  obtain ⟨p, j, r0, r1, g1, g2, g3, g4, g5, g6, g7⟩ := takePlan_has hn hP f0.len f1.len (n := n) e2
  refine ⟨hz, p, r0, r1, ?_, ?_, SR_linked hn hP.k0 f0 g6, SR_linked hn hP.k1 f1 g7⟩
  · unfold parse
    rw [e1]
    dsimp only
    rw [g1]
  · exact ⟨g2, hP.most, hP.lo, by have := hP.hi; omega, g3, g4, g5, hP.la, hP.lb, hP.ab, SR_valid hn hP.k0 f0 g6, SR_valid hn hP.k1 f1 g7⟩
theorem tw_app {p : Nat → Bool} {c : Nat} (hc : p c = false) : ∀ (x y : List Nat), (x ++ c :: y).takeWhile p = x.takeWhile p
  | [], y => by simp [List.takeWhile, hc]
  | a :: x, y => by
    show (a :: (x ++ c :: y)).takeWhile p = (a :: x).takeWhile p
    cases h : p a with
    | true => simp only [List.takeWhile, h, tw_app hc x y]
    | false => simp only [List.takeWhile, h]
theorem longest_app {c : Nat} (hL : isL c = false) (hD : isD c = false) {x : List Nat} (hx : x ≠ []) (y : List Nat) : longest (x ++ c :: y) = longest x := by
  unfold longest
  rw [tw_app hL, tw_app hD]
  cases x with
  | nil => exact absurd rfl hx
  | cons a r => rfl
/-- a word by itself -/
structure Wd (w : List Nat) : Prop where
  ne : w ≠ []
  cs : ∀ c ∈ w, c ≠ 10 ∧ c ≠ 32
  kd : (kindOf w).isSome = true
  lg : longest w = w
def wdB (w : List Nat) : Bool := !w.isEmpty && w.all (fun c => c != 10 && c != 32) && (kindOf w).isSome && decide (longest w = w)
theorem wd_of {w : List Nat} (h : wdB w = true) : Wd w := by
  unfold wdB at h
  simp only [Bool.and_eq_true] at h
  obtain ⟨⟨⟨h1, h2⟩, h3⟩, h4⟩ := h
  refine ⟨?_, fun c hc => ?_, h3, of_decide_eq_true h4⟩
  · intro z
    rw [z] at h1
    cases h1
  · have := List.all_eq_true.mp h2 c hc
    simp at this
    exact this
theorem wd_cmd {w : Str} (h : w ∈ commands) : Wd (tl w) := by
  have : ∀ w ∈ commands, wdB (tl w) = true := by decide +kernel
  exact wd_of (this w h)
theorem wd_num {n : Nat} (h : n < 12) : Wd (TL.numL n) := by
  have : ∀ n < 12, wdB (TL.numL n) = true := by decide +kernel
  exact wd_of (this n h)
theorem wd_colon : Wd [58] := wd_of (by decide +kernel)
theorem wd_semi : Wd [59] := wd_of (by decide +kernel)
theorem wd_open : Wd [123] := wd_of (by decide +kernel)
theorem wd_close : Wd [125] := wd_of (by decide +kernel)
theorem wd_robot : Wd (tl ("robot" : Str)) := wd_of (by decide +kernel)
theorem wd_shelf : Wd (tl ("shelf" : Str)) := wd_of (by decide +kernel)
def brk (c : Nat) : Bool := c == 10 || c == 32 || c == 58 || c == 59 || c == 123 || c == 125
def sgn (c : Nat) : Bool := c == 58 || c == 59 || c == 123 || c == 125
theorem brk_no {c : Nat} (h : brk c = true) : isL c = false ∧ isD c = false := by
  unfold brk at h
  simp only [Bool.or_eq_true, beq_iff_eq] at h
  rcases h with ((((rfl | rfl) | rfl) | rfl) | rfl) | rfl <;> exact ⟨rfl, rfl⟩
/-- what may stand behind a word -/
def Nxt (l : List Nat) : Prop := l = [] ∨ ∃ c r, l = c :: r ∧ brk c = true
/-- a text that falls into words, each with a break behind it -/
inductive LexB : List Nat → List (List Nat) → Prop where
  | nil : LexB [] []
  | blank {l : List Nat} {ws : List (List Nat)} (h : LexB l ws) : LexB (32 :: l) ws
  | line {l : List Nat} {ws : List (List Nat)} (h : LexB l ws) : LexB (10 :: l) ws
  | tok {l w : List Nat} {ws : List (List Nat)} (hw : Wd w) (hs : (∃ c, w = [c] ∧ sgn c = true) ∨ ∀ c ∈ w, isL c = true ∨ isD c = true) (hn : Nxt l) (h : LexB l ws) : LexB (w ++ l) (w :: ws)
theorem LexB.nil_of : ∀ {l : List Nat} {ws : List (List Nat)}, LexB l ws → l = [] → ws = []
  | _, _, .nil, _ => rfl
  | _, _, .blank _, e => by cases e
  | _, _, .line _, e => by cases e
  | _, _, .tok hw _ _ _, e => absurd (List.append_eq_nil_iff.mp e).1 hw.ne
theorem LexB.lex : ∀ {l : List Nat} {ws : List (List Nat)}, LexB l ws → Lex l ws
  | _, _, .nil => .nil
  | _, _, .blank h => .blank h.lex
  | _, _, .line h => .line h.lex
  | _, _, .tok (l := l) (w := w) hw _ hn h => by
    refine .tok hw.ne hw.cs hw.kd ?_ h.lex
    rcases hn with rfl | ⟨c, r, rfl, hc⟩
    · rw [List.append_nil]
      exact hw.lg
    · rw [longest_app (brk_no hc).1 (brk_no hc).2 hw.ne]
      exact hw.lg
/-- two texts, where the second begins with a break -/
theorem lex_join {c : Nat} {l' : List Nat} {ws' : List (List Nat)} (hc : brk c = true) (h' : LexB (c :: l') ws') : ∀ {l : List Nat} {ws : List (List Nat)}, LexB l ws → LexB (l ++ c :: l') (ws ++ ws')
  | _, _, .nil => h'
  | _, _, .blank h => .blank (lex_join hc h' h)
  | _, _, .line h => .line (lex_join hc h' h)
  | _, _, .tok (l := l) (w := w) hw hs hn h => by
    rw [List.append_assoc]
    refine .tok hw hs ?_ (lex_join hc h' h)
    rcases hn with rfl | ⟨d, r, rfl, hd⟩
    · exact .inr ⟨c, l', rfl, hc⟩
    · exact .inr ⟨d, _, rfl, hd⟩
theorem sg_of {w : List Nat} (h : (w.all fun c => isL c || isD c) = true) : (∃ c, w = [c] ∧ sgn c = true) ∨ ∀ c ∈ w, isL c = true ∨ isD c = true := .inr fun c hc => by
  have := List.all_eq_true.mp h c hc
  simpa using this
theorem wd_lex {w : List Nat} (h : Wd w) (ha : (w.all fun c => isL c || isD c) = true) : LexB w [w] := by
  have := LexB.tok (l := []) h (sg_of ha) (.inl rfl) .nil
  rw [List.append_nil] at this
  exact this
theorem al_cmd {w : Str} (h : w ∈ commands) : ((tl w).all fun c => isL c || isD c) = true := by
  have : ∀ w ∈ commands, ((tl w).all fun c => isL c || isD c) = true := by decide +kernel
  exact this w h
theorem al_num {n : Nat} (h : n < 12) : ((TL.numL n).all fun c => isL c || isD c) = true := by
  have : ∀ n < 12, ((TL.numL n).all fun c => isL c || isD c) = true := by decide +kernel
  exact this n h
theorem lex_sign {c : Nat} {l : List Nat} {ws : List (List Nat)} (hs : sgn c = true) (hn : Nxt l) (h : LexB l ws) : LexB (c :: l) ([c] :: ws) := by
  have hw : Wd [c] := by
    unfold sgn at hs
    simp only [Bool.or_eq_true, beq_iff_eq] at hs
    rcases hs with ((rfl | rfl) | rfl) | rfl
    · exact wd_colon
    · exact wd_semi
    · exact wd_open
    · exact wd_close
  exact LexB.tok (w := [c]) hw (.inl ⟨c, rfl, hs⟩) hn h
theorem lex_at {c : Nat} {l l' : List Nat} {ws ws' : List (List Nat)} (hc : brk c = true) (h : LexB l ws) (h' : LexB (c :: l') ws') : LexB (l ++ c :: l') (ws ++ ws') := lex_join hc h' h
/-! ### the canonical text -/
def nmS : List Str := ["sa", "sb", "sc", "sd", "se", "sf", "sg", "sh", "si", "sj", "sk", "sl", "sm", "sn", "so", "sp", "sq", "sr", "ss", "st"]
theorem nmS_lab {k : Nat} (h : k < 20) : nmC nmS k = labC k := by
  have : ∀ k < 20, nmC nmS k = labC k := by decide +kernel
  exact this k h
theorem nmS_ok : Nm nmS := by
  refine ⟨rfl, fun i j hi hj h => ?_, fun i hi => ?_⟩
  · rw [nmS_lab hi, nmS_lab hj] at h
    have := (List.cons.inj (List.cons.inj h).2).1
    omega
  · have : ∀ i < 20, kw (nmC nmS i) = (("name" : Str), nmC nmS i) := by decide +kernel
    exact this i hi
theorem nmS_wd {k : Nat} (h : k < 20) : Wd (nmC nmS k) := by
  have : ∀ k < 20, wdB (nmC nmS k) = true := by decide +kernel
  exact wd_of (this k h)
theorem nmS_al {k : Nat} (h : k < 20) : ((nmC nmS k).all fun c => isL c || isD c) = true := by
  have : ∀ k < 20, ((nmC nmS k).all fun c => isL c || isD c) = true := by decide +kernel
  exact this k h
theorem lex_step {nm : List Str} {n : Nat} {s : Lk} {b : Bool} (hwd : ∀ k, k < 20 → LexB (nmC nm k) [nmC nm k]) (h8 : n < 20) (hc : s.1 ∈ commands) (ht : ∀ t, s.2 = some t → t < 20) : LexB (lstep nm n s b) (ltok nm n s b) := by
  have h59 : LexB [59] [[59]] := lex_sign rfl (.inl rfl) .nil
  have tail : LexB (tl s.1 ++ ((match s.2 with | none => [] | some t => 32 :: nmC nm t) ++ [59])) (tl s.1 :: ((match s.2 with | none => [] | some t => [nmC nm t]) ++ [[59]])) := by
    cases q : s.2 with
    | none => exact lex_at rfl (wd_lex (wd_cmd hc) (al_cmd hc)) h59
    | some t =>
      have h1 : LexB (nmC nm t ++ [59]) [nmC nm t, [59]] := lex_at rfl (hwd t (ht t q)) h59
      exact lex_at rfl (wd_lex (wd_cmd hc) (al_cmd hc)) (.blank h1)
  unfold lstep ltok
  rw [List.append_assoc, List.append_assoc, List.append_assoc, List.append_assoc]
  cases b with
  | false => exact tail
  | true =>
    have h1 : LexB (58 :: 32 :: (tl s.1 ++ ((match s.2 with | none => [] | some t => 32 :: nmC nm t) ++ [59]))) ([58] :: (tl s.1 :: ((match s.2 with | none => [] | some t => [nmC nm t]) ++ [[59]]))) := lex_sign rfl (.inr ⟨32, _, rfl, rfl⟩) (.blank tail)
    have := lex_at rfl (hwd n h8) h1
    show LexB ((nmC nm n ++ [58, 32]) ++ _) _
    rw [List.append_assoc]
    exact this
theorem stepC_eq {tg : List (Option Nat)} {n : Nat} {s : Lk} (h8 : n < 20) (ht : ∀ t, s.2 = some t → t < 20) : stepC tg n s = 32 :: 32 :: lstep nmS n s (decide (some n ∈ tg)) := by
  unfold stepC lstep
  rw [nmS_lab h8]
  have e1 : (if some n ∈ tg then labC n ++ [58, 32] else []) = (if decide (some n ∈ tg) = true then labC n ++ [58, 32] else []) := by
    by_cases m : some n ∈ tg
    · rw [if_pos m, if_pos (decide_eq_true m)]
    · rw [if_neg m, if_neg (by simpa using m)]
  rw [e1]
  cases q : s.2 with
  | none => rfl
  | some t =>
    show _ = 32 :: 32 :: (_ ++ tl s.1 ++ (32 :: nmC nmS t) ++ [59])
    rw [nmS_lab (ht t q)]
    rfl
/-! ### the words of a text whose signs were spaced -/
inductive F2 : List (List Nat) → List (List (List Nat)) → Prop where
  | nil : F2 [] []
  | cons {a : List Nat} {b : List (List Nat)} {r : List (List Nat)} {t : List (List (List Nat))} (h : LexB a b) (k : F2 r t) : F2 (a :: r) (b :: t)
theorem F2.app : ∀ {a c : List (List Nat)} {b d : List (List (List Nat))}, F2 a b → F2 c d → F2 (a ++ c) (b ++ d)
  | _, _, _, _, .nil, h => h
  | _, _, _, _, .cons h k, h' => .cons h (k.app h')
theorem lex_lines : ∀ {a : List (List Nat)} {b : List (List (List Nat))}, F2 a b → LexB (TL.joinL [10] a) b.flatten
  | _, _, .nil => .nil
  | _, _, .cons (a := a) (b := b) h .nil => by
    show LexB a (b ++ [])
    rw [List.append_nil]
    exact h
  | _, _, .cons (a := a) (b := b) h (.cons (a := a2) (b := b2) (r := r) (t := t) h2 k) => by
    have ih := lex_lines (.cons h2 k)
    have e : TL.joinL [10] (a :: a2 :: r) = a ++ 10 :: TL.joinL [10] (a2 :: r) := by simp [TL.joinL]
    rw [e]
    exact lex_at rfl h (.line ih)
theorem lex_nums : ∀ (ns : List Nat) (l : List Nat) (ws : List (List Nat)), ns ≠ [] → (∀ n ∈ ns, n < 12) → LexB (59 :: l) ws → LexB (TL.joinL [32] (ns.map TL.numL) ++ 59 :: l) (ns.map TL.numL ++ ws)
  | [], _, _, h, _, _ => absurd rfl h
  | [n], l, ws, _, hn, h => by
    have hm := hn n (List.mem_singleton.mpr rfl)
    exact lex_at rfl (wd_lex (wd_num hm) (al_num hm)) h
  | n :: m :: r, l, ws, _, hn, h => by
    have hm := hn n (List.mem_cons_self ..)
    have ih := lex_nums (m :: r) l ws (by simp) (fun x hx => hn x (List.mem_cons_of_mem _ hx)) h
    have e : TL.joinL [32] ((n :: m :: r).map TL.numL) = TL.numL n ++ 32 :: TL.joinL [32] ((m :: r).map TL.numL) := by simp [TL.joinL]
    rw [e, List.append_assoc]
    have := lex_at (c := 32) rfl (wd_lex (wd_num hm) (al_num hm)) (.blank ih)
    exact this
theorem shelf_sp : tl ("shelf " : Str) = tl ("shelf" : Str) ++ [32] := by decide +kernel
theorem robot_sp : tl ("robot " : Str) = tl ("robot" : Str) ++ [32] := by decide +kernel
theorem lex_hd {P : Plm} (hP : PlanOk P) : LexB (hdC P) ([tl ("shelf" : Str)] ++ P.bx.map TL.numL ++ [[59]]) := by
  have lo := hP.lo
  have h59 : LexB [59] [[59]] := lex_sign rfl (.inl rfl) .nil
  have hn := lex_nums P.bx [] [[59]] (fun z => by rw [z] at lo; exact absurd lo (by decide)) (fun n hn => by have := hP.most n hn; omega) h59
  unfold hdC
  rw [shelf_sp, List.append_assoc, List.append_assoc, List.append_assoc]
  exact lex_at rfl (wd_lex wd_shelf (by decide +kernel)) (.blank hn)
theorem lex_rh {a : Nat} (ha : a < 12) : LexB (tl ("robot " : Str) ++ TL.numL a ++ [32, 123]) [tl ("robot" : Str), TL.numL a, [123]] := by
  have h1 : LexB [123] [[123]] := lex_sign rfl (.inl rfl) .nil
  have h2 := lex_at (c := 32) rfl (wd_lex (wd_num ha) (al_num ha)) (.blank h1)
  rw [robot_sp, List.append_assoc, List.append_assoc]
  exact lex_at rfl (wd_lex wd_robot (by decide +kernel)) (.blank h2)
theorem lex_close : LexB [125] [[125]] := lex_sign rfl (.inl rfl) .nil
/-- the words of steps, line by line -/
def lsT (nm : List Str) : Nat → List Lk → List Bool → List (List (List Nat))
  | n, s :: r, b :: bs => ltok nm n s b :: lsT nm (n + 1) r bs
  | _, _, _ => []
theorem lsT_flat (nm : List Str) : ∀ (l : List Lk) (n : Nat) (hs : List Bool), (lsT nm n l hs).flatten = ltoks nm n l hs
  | [], _, _ => by simp [lsT, ltoks]
  | _ :: _, _, [] => by simp [lsT, ltoks]
  | s :: r, n, b :: bs => by simp [lsT, ltoks, lsT_flat nm r (n + 1) bs]
theorem lex_steps {nm : List Str} (hwd : ∀ k, k < 20 → LexB (nmC nm k) [nmC nm k]) : ∀ (l : List Lk) (n : Nat) (hs : List Bool), n + l.length ≤ 20 → (∀ s ∈ l, s.1 ∈ commands) → (∀ s ∈ l, ∀ t, s.2 = some t → t < 20) → F2 (lsteps nm n l hs) (lsT nm n l hs)
  | [], _, _, _, _, _ => by
    simp only [lsteps, lsT]
    exact .nil
  | _ :: _, _, [], _, _, _ => by
    simp only [lsteps, lsT]
    exact .nil
  | s :: r, n, b :: bs, h8, hc, ht => by
    simp only [List.length_cons] at h8
    exact .cons (lex_step hwd (by omega) (hc s (List.mem_cons_self ..)) (ht s (List.mem_cons_self ..))) (lex_steps hwd r (n + 1) bs (by omega) (fun x hx => hc x (List.mem_cons_of_mem _ hx)) (fun x hx => ht x (List.mem_cons_of_mem _ hx)))
def robT (nm : List Str) (a : Nat) (l : List Lk) (hs : List Bool) : List (List (List Nat)) := [tl ("robot" : Str), TL.numL a, [123]] :: (lsT nm 0 l hs ++ [[[125]]])
theorem robT_flat (nm : List Str) (a : Nat) (l : List Lk) (hs : List Bool) : (robT nm a l hs).flatten = robToks nm a l hs := by
  unfold robT robToks
  simp [lsT_flat]
def allT (P : Plm) (nm : List Str) (h0 h1 : List Bool) : List (List (List Nat)) := ([tl ("shelf" : Str)] ++ P.bx.map TL.numL ++ [[59]]) :: (robT nm P.a P.l0 h0 ++ robT nm P.b P.l1 h1)
theorem allT_flat (P : Plm) (nm : List Str) (h0 h1 : List Bool) : (allT P nm h0 h1).flatten = toks P nm h0 h1 := by
  unfold allT toks
  rw [List.flatten_cons, List.flatten_append, robT_flat, robT_flat]
theorem lex_rob {nm : List Str} (hwd : ∀ k, k < 20 → LexB (nmC nm k) [nmC nm k]) {a : Nat} (ha : a < 12) {l : List Lk} (hD : StepsOk l) (hs : List Bool) : F2 (lrob nm a l hs) (robT nm a l hs) := by
  have h8 := hD.hi
  exact .cons (lex_rh ha) ((lex_steps hwd l 0 hs (by omega) hD.cmd (fun s hs t e => Nat.lt_of_lt_of_le (hD.tgt s hs t e) h8)).app (.cons lex_close .nil))
theorem lex_loose {nm : List Str} (hwd : ∀ k, k < 20 → LexB (nmC nm k) [nmC nm k]) {P : Plm} (hP : PlanOk P) (h0 h1 : List Bool) : LexB (looseT P nm h0 h1) (toks P nm h0 h1) := by
  have hi := hP.hi
  have la := hP.la
  have lb := hP.lb
  rw [← allT_flat]
  exact lex_lines (.cons (lex_hd hP) ((lex_rob hwd (by omega) hP.k0 h0).app (lex_rob hwd (by omega) hP.k1 h1)))
/-! the canonical text -/
def flg (tg : List (Option Nat)) : Nat → List Lk → List Bool
  | _, [] => []
  | n, _ :: r => decide (some n ∈ tg) :: flg tg (n + 1) r
theorem flg_len (tg : List (Option Nat)) : ∀ (l : List Lk) (n : Nat), (flg tg n l).length = l.length
  | [], _ => rfl
  | _ :: r, n => by
    show (flg tg (n + 1) r).length + 1 = r.length + 1
    rw [flg_len tg r (n + 1)]
theorem flg_get (tg : List (Option Nat)) : ∀ (l : List Lk) (n i : Nat), i < l.length → (flg tg n l)[i]? = some (decide (some (n + i) ∈ tg))
  | [], _, _, h => by simp at h
  | _ :: r, n, 0, _ => rfl
  | _ :: r, n, i + 1, h => by
    have := flg_get tg r (n + 1) i (by simpa using h)
    show (flg tg (n + 1) r)[i]? = _
    rw [this, show n + 1 + i = n + (i + 1) by omega]
theorem flg_ok {l : List Lk} (hD : StepsOk l) : Flags l (flg (l.map (·.2)) 0 l) := by
  refine ⟨flg_len _ l 0, fun k hk => ?_⟩
  obtain ⟨s, hs, e⟩ := List.mem_map.mp hk
  rw [flg_get _ l 0 k (hD.tgt s hs k e), Nat.zero_add, decide_eq_true hk]
theorem nmS_lex (k : Nat) (h : k < 20) : LexB (nmC nmS k) [nmC nmS k] := wd_lex (nmS_wd h) (nmS_al h)
theorem lex_stepLs (tg : List (Option Nat)) : ∀ (l : List Lk) (n : Nat), n + l.length ≤ 20 → (∀ s ∈ l, s.1 ∈ commands) → (∀ s ∈ l, ∀ t, s.2 = some t → t < 20) → F2 (stepsFrom tg n l) (lsT nmS n l (flg tg n l))
  | [], _, _, _, _ => .nil
  | s :: r, n, h8, hc, ht => by
    simp only [List.length_cons] at h8
    have hts := ht s (List.mem_cons_self ..)
    have h1 := lex_step (nm := nmS) (n := n) (s := s) (b := decide (some n ∈ tg)) nmS_lex (by omega) (hc s (List.mem_cons_self ..)) hts
    have h2 : LexB (stepC tg n s) (ltok nmS n s (decide (some n ∈ tg))) := by
      rw [stepC_eq (by omega) hts]
      exact .blank (.blank h1)
    exact .cons h2 (lex_stepLs tg r (n + 1) (by omega) (fun x hx => hc x (List.mem_cons_of_mem _ hx)) (fun x hx => ht x (List.mem_cons_of_mem _ hx)))
theorem lex_robC {a : Nat} (ha : a < 12) {l : List Lk} (hD : StepsOk l) : F2 (robC a l) (robT nmS a l (flg (l.map (·.2)) 0 l)) := by
  have h8 := hD.hi
  have k := lex_stepLs (l.map fun (s : Lk) => s.2) l 0 (by omega) hD.cmd (fun s hs t e => Nat.lt_of_lt_of_le (hD.tgt s hs t e) h8)
  exact .cons (lex_rh ha) (k.app (.cons lex_close .nil))
theorem lex_canon {P : Plm} (hP : PlanOk P) : LexB (textC P) (toks P nmS (flg (P.l0.map (·.2)) 0 P.l0) (flg (P.l1.map (·.2)) 0 P.l1)) := by
  have hi := hP.hi
  have la := hP.la
  have lb := hP.lb
  rw [← allT_flat]
  exact lex_lines (.cons (lex_hd hP) ((lex_robC (by omega) hP.k0).app (lex_robC (by omega) hP.k1)))
theorem canon_reads {P : Plm} (hP : PlanOk P) : Reads (planText P) P := by
  refine reads_of nmS_ok hP (flg_ok hP.k0) (flg_ok hP.k1) (lex_canon hP).lex ?_
  have := joinL_len (S := [10]) (k := 60) (planC P) (planC_small hP.pl)
  have pl := planC_len hP.pl
  have big1 : big = 1000000 := rfl
  show (textC P).length + 10 ≤ big
  unfold textC
  simp only [List.length_cons, List.length_nil] at this
  omega
theorem law_txts {n : Nat} {P : Plm} (h : LawPl n P) : Txts (planText P) P := ⟨canon_reads h.ok, h.ok, h.rep.mono (by decide)⟩
end SB

set_option maxHeartbeats 4000000
/-! a for in a generator's body -/
namespace SB
open PySem PySem.Spec PyProof.Rows L2 GenW
section
variable {M : Model} {A : Around} {R : GenEnd} {Y : Protocol} {n : Nat} {s₀ : Shared} {c : Code} {fs : List Frame} {s : Shared} {env : Env} {K : Flow → Sem PySem.Fin} {J : Value → Sem PySem.Fin} {gd : Bool → Bool} {lv : List Value → List Value}
theorem seg_For {target iter : Expr} {body orelse : List Stmt} {pos : Pos}
    (h : wpAny M (A.over c fs) (eval iter env) (fun v s1 => wpAny M (A.over c fs) (pyIter v) (fun it s2 => ∀ p, Seg M A R Y n s₀ (.forLoop target it body orelse env) (M.den (.forLoop target it body orelse env))
      (.ret (fun r => ((match r with | .ok f => (.pure f : Sem Flow) | .error e => .raise e).onRaise (cameBack env)).wrap K J gd lv) none (gd false) (lv []) c p [] :: fs) s2)
      (fun x s' => Seg M A R Y n s₀ c (J x) fs s') s1) (fun x s' => Seg M A R Y n s₀ c (J x) fs s') s)
    (hs : ∀ x, foldedSetIterable iter env x = pure x) :
    Seg M A R Y n s₀ c ((exec (.For target iter body orelse pos) env).wrap K J gd lv) fs s := by
  rw [exec_For]
  refine seg_bind_wrap (wpAny_standAt ?_)
  refine seg_bind_wrap (wpAny_mono h (fun v s1 h1 => ?_) fun _ _ q => q)
  refine seg_bind_wrap (wpAny_of_eq (hs v) ?_)
  refine seg_bind_wrap (wpAny_standAt ?_)
  refine seg_bind_wrap (wpAny_holding (wpAny_mono h1 (fun it s2 h2 => ?_) fun _ _ q => q))
  exact seg_call h2
end
section
variable {prog : Program} {w : World} {A : Around} {R : GenEnd} {Y : Protocol} {n : Nat} {s₀ : Shared} {fs : List Frame} {s : Shared} {env : Env}
/-- what the loop's code does with an exception -/
def loopExc (env : Env) (x : Value) : Sem PySem.Fin := (do noteFrame x env; theTreesLotGoes x : Sem Unit).bind fun _ => .raise x
/-- one turn -/
theorem seg_forTurn {target : Expr} {it : Value} {body : List Stmt}
    (h : wpAny (model prog w) (A.over (.forLoop target it body [] env) fs) (pyNext it) (fun r s1 => match r with
      | none => Seg (model prog w) A R Y n s₀ (.block [] env) (.pure (.done .next)) fs s1
      | some v => wpAny (model prog w) (A.over (.forLoop target it body [] env) fs) (letOwnedTupleGo target it v) (fun _ s2 => wpAny (model prog w) (A.over (.forLoop target it body [] env) fs) (assign target env v) (fun _ s3 =>
          ∀ (K : Flow → Sem PySem.Fin) (J : Value → Sem PySem.Fin), K .next = .pure (.again (.forLoop target it body [] env)) → K .cont = .pure (.again (.forLoop target it body [] env)) → K .brk = .pure (.done .next) → (∀ v, K (.ret v) = .pure (.done (.ret v))) → J = loopExc env →
            Seg (model prog w) A R Y n s₀ (.forLoop target it body [] env) ((execs body env).wrap K J id id) fs s3)
          (fun x s' => Seg (model prog w) A R Y n s₀ (.forLoop target it body [] env) (loopExc env x) fs s') s2) (fun x s' => Seg (model prog w) A R Y n s₀ (.forLoop target it body [] env) (loopExc env x) fs s') s1)
      (fun x s' => Seg (model prog w) A R Y n s₀ (.forLoop target it body [] env) (loopExc env x) fs s') s) :
    Seg (model prog w) A R Y n s₀ (.forLoop target it body [] env) ((model prog w).den (.forLoop target it body [] env)) fs s := by
  show Seg _ A R Y n s₀ _ ((forTurn target it body [] env).onRaise (fun x => do noteFrame x env; theTreesLotGoes x)) fs s
  rw [Sem.onRaise_eq_wrap]
  unfold forTurn
  refine seg_bind_wrap (wpAny_standAt ?_)
  refine seg_bind_wrap (wpAny_onRaise (wpAny_mono h (fun r s1 h1 => ?_) fun x s' q => wpAny_standAt q))
  cases r with
  | none =>
    refine seg_again (c' := .block [] env) rfl ?_
    exact h1
  | some v =>
    refine seg_bind_wrap (wpAny_mono h1 (fun _ s2 h2 => ?_) fun _ _ q => q)
    refine seg_bind_wrap (wpAny_mono h2 (fun _ s3 h3 => ?_) fun _ _ q => q)
    rw [Sem.bind_eq_wrap', Sem.wrap_wrap]
    exact h3 _ _ rfl rfl rfl (fun _ => rfl) rfl
end
end SB
namespace SB
open PySem PySem.Spec PyProof.Rows L2 GenW
/-! ### for -/
def tGFor (wi : TI) (g : TG) (tb : TGn) : TGn := fun D ys σ H => wi σ H fun J H1 => ∃ W : Nat → Nat → List V → L2.St → Hp → Prop, (∃ m, W 0 m ys σ H1) ∧ ∀ i m ys σ H, W i m ys σ H →
  (J.stop i H ∧ D.nx ys σ H) ∨ (J.go i H ∧ ∃ N : List V → L2.St → Hp → Prop, (∀ ys' σ' H', N ys' σ' H' → ∃ m', m' < m ∧ W (i + 1) m' ys' σ' H') ∧ ∀ x H', J.yld i H x H' → g x σ H' fun σ2 H2 => tb { D with nx := N, ct := N, bk := D.nx } ys σ2 H2)
section
variable {X : Cx} {tg : Expr}
theorem pinsAt_ne {S : Addr} {fp : List Addr} {h : Heap} {p : Addr × Obj} (hf : ∀ b ∈ fp, S ≠ b) (hp : p ∈ pinsAt fp h) : p.1 ≠ S := fun e => hf p.1 (of_pinsAt hp).1 e.symm
theorem gs_for {iter : Expr} {body : List Stmt} {wi : TI} {g : TG} {tb : TGn} {pos : Pos} (hp : PassesOwn (model X.prog X.w) X.A X.env X.xe) (hc : X.calm = true) (hi : PI X tg iter wi) (hg : PG X tg g) (hb : GSs X body tb)
    (hs : ∀ x, foldedSetIterable iter X.env x = pure x := by intro _; rfl) : GS X (.For tg iter body [] pos) (tGFor wi g tb) := by
  refine ⟨fun A S ip R n ys s₀ c fs K J gd lv s σ H D gc hn k hI ht => ?_⟩
  obtain ⟨acc0, cc0, r0, I0⟩ := hI
  refine seg_For ?_ hs
  rw [gc.over]
  refine wpAny_mono (hi.run _ s σ H _ I0 ht) (fun v s1 h1 => ?_) fun x s' hx => k.exc n s₀ x s' hx
  refine wpAny_mono h1 (fun itv s2 h2 => ?_) fun x s' hx => k.exc n s₀ x s' hx
  obtain ⟨it, fp, tn, Jt, H2, e, I2, T, st2, f2, W, ⟨m0, w0⟩, turn⟩ := h2
  subst e
  intro p
  have fpS : ∀ b ∈ fp, S ≠ b := fun b hb => (f2 b hb).2.2.2.2.2 (S, lstObj acc0 cc0) (List.mem_append_right _ List.mem_cons_self)
  have stat : ∀ {H' : Hp} {acc : Array Value} {cc : Nat}, (∀ b ∈ fp, H' b = none) → ∀ b ∈ fp, FpOk X ((S, lstObj acc cc) :: ip) H' b := fun hn b hb => by
    obtain ⟨_, h2, h3, h4, h5, h6⟩ := f2 b hb
    refine ⟨hn b hb, h2, h3, h4, h5, fun q hq => ?_⟩
    rcases List.mem_append.mp hq with z | z
    · exact h6 q (List.mem_append_left _ z)
    · rcases List.mem_cons.mp z with z | z
      · rw [z]
        exact fpS b hb
      · exact h6 q (List.mem_append_right _ (List.mem_cons_of_mem _ z))
  have gl := fun (kk : Result → Sem PySem.Fin) => gc_loop (k := kk) (c' := .forLoop tg (.ref it) body [] X.env) (l := lv []) (kp := []) (p := p) gc rfl rfl
  have ee : ∀ (n : Nat) (s₀ : Shared) (x : Value) (s' : Shared), X.xe x s' → Seg (model X.prog X.w) A R (GY X S) n s₀ (.forLoop tg (.ref it) body [] X.env) (loopExc X.env x)
      (.ret (fun r => ((match r with | .ok f => (.pure f : Sem Flow) | .error e => .raise e).onRaise (cameBack X.env)).wrap K J gd lv) none (gd false) (lv []) c p [] :: fs) s' := fun n s₀ x s' hx => by
    unfold loopExc
    rw [Sem.bind_eq_wrap]
    refine seg_wrap ?_
    rw [(gl _).over]
    refine wpAny_bind (wpAny_mono (hp x s' hx) (fun _ s'' hcb => wpAny_theTreesLotGoes ?_) fun y s'' hcb => ?_)
    · exact seg_leaf (.error x) (seg_cameBack gc k hcb)
    · exact seg_leaf (.error y) (seg_cameBack gc k hcb)
  have loop : ∀ (m i n : Nat) (ys : List V) (s₀ s : Shared) (σ : L2.St) (H : Hp), n + ys.length = sizeLine → W i m ys σ H → GI X S ip ys σ H s → tn i s.heap → (∀ b ∈ fp, H b = none) →
      Seg (model X.prog X.w) A R (GY X S) n s₀ (.forLoop tg (.ref it) body [] X.env) ((model X.prog X.w).den (.forLoop tg (.ref it) body [] X.env))
        (.ret (fun r => ((match r with | .ok f => (.pure f : Sem Flow) | .error e => .raise e).onRaise (cameBack X.env)).wrap K J gd lv) none (gd false) (lv []) c p [] :: fs) s := by
    intro m
    induction m using Nat.strongRecOn with
    | ind m ih =>
      intro i n ys s₀ s3 σ3 H3 hn w3 hI st3 fr3
      refine seg_forTurn ?_
      rw [(gl _).over]
      obtain ⟨acc, cc, r, I3⟩ := hI
      rcases turn i m ys σ3 H3 w3 with ⟨stop, qn⟩ | ⟨go, N, hN, step⟩
      · refine wpAny_mono (T.done X rfl rfl rfl hc i _ s3 σ3 H3 X.xe I3 (stat fr3) st3 stop) (fun r' s4 ⟨hr, I4⟩ => ?_) fun x s' hx => ee n s₀ x s' hx
        subst hr
        exact seg_leaf (.ok .next) (k.ok n ys s₀ s4 .next hn ⟨σ3, H3, ⟨acc, cc, r, I4⟩, qn⟩)
      · refine wpAny_mono (T.item X rfl rfl rfl hc i _ s3 σ3 H3 X.xe I3 (stat fr3) st3 go) (fun r' s4 ⟨u, hr, h4⟩ => ?_) fun x s' hx => ee n s₀ x s' hx
        subst hr
        refine wpAny_mono h4 (fun _ s5 ⟨x, H5, I5, r5, y5, st5, fr5⟩ => ?_) fun x s' hx => ee n s₀ x s' hx
        have I5' := I5.pinned (stat fr5) (T.obj _ _ st5)
        refine wpAny_mono (hg.run _ s5 σ3 H5 x u _ I5' r5 (step x H5 y5)) (fun _ s6 ⟨σ6, H6, I6, q6⟩ => ?_) fun x s' hx => ee n s₀ x s' hx
        intro K' J' k1 k2 k3 k4 k5
        have gl' : GC X S (ip ++ pinsAt fp s5.heap) A (.forLoop tg (.ref it) body [] X.env) (.ret (fun r => ((match r with | .ok f => (.pure f : Sem Flow) | .error e => .raise e).onRaise (cameBack X.env)).wrap K J gd lv) none (gd false) (lv []) c p [] :: fs) id :=
          have g0 := gl (fun r => ((match r with | .ok f => (.pure f : Sem Flow) | .error e => .raise e).onRaise (cameBack X.env)).wrap K J gd lv)
          ⟨g0.pn, fun q hq => (List.mem_append.mp hq).elim (g0.ip q) fun z => pinsAt_ne fpS z, g0.apart, g0.over, g0.split, g0.guard, g0.gd⟩
        have again : ∀ {n' : Nat} {ys' : List V} {s₀' s7 : Shared} {σ7 : L2.St} {H7 : Hp}, n' + ys'.length = sizeLine → GI X S (ip ++ pinsAt fp s5.heap) ys' σ7 H7 s7 → N ys' σ7 H7 → Seg (model X.prog X.w) A R (GY X S) n' s₀' (.forLoop tg (.ref it) body [] X.env) (.pure (.again (.forLoop tg (.ref it) body [] X.env)))
            (.ret (fun r => ((match r with | .ok f => (.pure f : Sem Flow) | .error e => .raise e).onRaise (cameBack X.env)).wrap K J gd lv) none (gd false) (lv []) c p [] :: fs) s7 := fun {n' ys' s₀' s7 σ7 H7} hn' G7 n7 => by
          obtain ⟨acc7, cc7, r7, I7⟩ := G7
          obtain ⟨m', hm, w7⟩ := hN ys' σ7 H7 n7
          have pn7 : ∀ b ∈ fp, ∀ o, s5.heap.get? b = some o → s7.heap.get? b = some o ∧ H7 b = none := fun b hb o e => by
            have := I7.pin (b, o) (List.mem_append_right _ (List.mem_cons_of_mem _ (List.mem_append_right _ (mem_pinsAt hb e))))
            exact ⟨this.1, this.2.1⟩
          refine seg_again rfl (ih m' hm (i + 1) n' ys' s₀' s7 σ7 H7 hn' w7 ⟨acc7, cc7, r7, ?_⟩ (T.keep _ _ _ st5 fun b hb o e => (pn7 b hb o e).1) fun b hb => ?_)
          · exact Inv.unpinned (pl := pinsAt fp s5.heap) I7
          · obtain ⟨o, e, d⟩ := T.obj _ _ st5 b hb
            exact (pn7 b hb o e).2
        have down : ∀ {ys' : List V} {s7 : Shared} {σ7 : L2.St} {H7 : Hp}, GI X S (ip ++ pinsAt fp s5.heap) ys' σ7 H7 s7 → GI X S ip ys' σ7 H7 s7 := fun {ys' s7 σ7 H7} G7 => by
          obtain ⟨acc7, cc7, r7, I7⟩ := G7
          exact ⟨acc7, cc7, r7, Inv.unpinned (pl := pinsAt fp s5.heap) I7⟩
        refine hb.run A S (ip ++ pinsAt fp s5.heap) R n ys s₀ _ _ K' J' id id s6 σ6 H6 { D with nx := N, ct := N, bk := D.nx } gl' hn ⟨fun n' ys' s₀' s7 f hn' q7 => ?_, fun n' s₀' x s7 hx => ?_⟩ ⟨acc, cc, r, I6⟩ q6
        · cases f with
          | next =>
            obtain ⟨σ7, H7, G7, n7⟩ := q7
            rw [k1]
            exact again hn' G7 n7
          | cont =>
            obtain ⟨σ7, H7, G7, n7⟩ := q7
            rw [k2]
            exact again hn' G7 n7
          | brk =>
            obtain ⟨σ7, H7, G7, n7⟩ := q7
            rw [k3]
            exact seg_leaf (.ok .next) (k.ok n' ys' s₀' s7 .next hn' ⟨σ7, H7, down G7, n7⟩)
          | ret v =>
            obtain ⟨v', σ7, H7, G7, r7, n7⟩ := q7
            rw [k4]
            exact seg_leaf (.ok (.ret v)) (k.ok n' ys' s₀' s7 (.ret v) hn' ⟨v', σ7, H7, down G7, r7, n7⟩)
        · rw [k5]
          exact ee n' s₀' x s7 hx
  exact loop m0 0 n ys s₀ s2 σ H2 hn w0 ⟨acc0, cc0, r0, I2⟩ st2 fun b hb => (f2 b hb).1
end
end SB

set_option maxHeartbeats 4000000
/-! generators in the logic without a heap -/
namespace SB
open PySem PySem.Spec PyProof.Rows L2 GenW
open TL (tl)
open Evl
theorem gfor_it {J : It} {n : Nat} {G : Hp → Prop} {Y : Nat → Hp → V → Hp → Prop} (w : Walk J n G Y) {g : TG} {tb : TGn} {D : GEnds} {ys : List V} {σ : L2.St} {H : Hp} (Pv : Nat → List V → L2.St → Hp → Prop) (h0 : Pv 0 ys σ H) (hG : ∀ i ys σ H, i ≤ n → Pv i ys σ H → G H)
    (hs : ∀ i x ys σ H H', i < n → Pv i ys σ H → Y i H x H' → g x σ H' fun σ2 H2 => tb { D with nx := Pv (i + 1), ct := Pv (i + 1), bk := D.nx } ys σ2 H2) (hd : ∀ ys σ H, Pv n ys σ H → D.nx ys σ H) :
    ∃ W : Nat → Nat → List V → L2.St → Hp → Prop, (∃ m, W 0 m ys σ H) ∧ ∀ i m ys σ H, W i m ys σ H →
      (J.stop i H ∧ D.nx ys σ H) ∨ (J.go i H ∧ ∃ N : List V → L2.St → Hp → Prop, (∀ ys' σ' H', N ys' σ' H' → ∃ m', m' < m ∧ W (i + 1) m' ys' σ' H') ∧ ∀ x H', J.yld i H x H' → g x σ H' fun σ2 H2 => tb { D with nx := N, ct := N, bk := D.nx } ys σ2 H2) := by
  refine ⟨fun i m ys σ H => m = n - i ∧ i ≤ n ∧ Pv i ys σ H, ⟨n, by simp, Nat.zero_le _, h0⟩, ?_⟩
  rintro i m ys σ H ⟨rfl, hi, p⟩
  have q := hG i ys σ H hi p
  by_cases hlt : i < n
  · exact .inr ⟨w.goes i H hlt q, Pv (i + 1), fun ys' σ' H' p' => ⟨n - (i + 1), by omega, rfl, hlt, p'⟩, fun x H' y => hs i x ys σ H H' hlt p (w.yields i H x H' hlt q y)⟩
  · have e : i = n := by omega
    subst e
    exact .inl ⟨w.stops H q, hd ys σ H p⟩
/-- what is wanted behind a statement of a generator; the second list: what is out -/
structure PoG where
  nx : List En → List FP → Prop
  rt : List FP → Prop
structure ReG (m : Fm) (F : Hp) (po : PoG) (D : GEnds) : Prop where
  nx : ∀ σ' F' H' Γ' ys φs, Ex F F' → GE m F' H' σ' Γ' → Al F' ys φs → po.nx Γ' φs → D.nx ys σ' H'
  rt : ∀ σ' F' H' Γ' ys φs, Ex F F' → GE m F' H' σ' Γ' → Al F' ys φs → po.rt φs → D.rt ys .non H'
theorem ReG.mono {m : Fm} {F F' : Hp} {po : PoG} {D : GEnds} (h : ReG m F po D) (x : Ex F F') : ReG m F' po D :=
  ⟨fun σ' F1 H' Γ' ys φs e => h.nx σ' F1 H' Γ' ys φs (x.trans e), fun σ' F1 H' Γ' ys φs e => h.rt σ' F1 H' Γ' ys φs (x.trans e)⟩
def YG (m : Fm) (Γ : List En) (φs : List FP) (ts : TGn) (po : PoG) : Prop := ∀ (F H : Hp) (σ : L2.St) (ys : List V), GE m F H σ Γ → Al F ys φs → ∀ D : GEnds, ReG m F po D → ts D ys σ H
section
variable {m : Fm} {K : PySem.W.Frag} {Γ : List En} {φs : List FP} {te : TE} {ts : TS} {tg tu : TGn} {φ : FP} {po : PoG} {g : TG} {wi : TI} {items : List FP} {XE : XK}
theorem y_plain (h : SG m Γ ts ⟨fun Γ' => po.nx Γ' φs, ⟨fun _ _ => False, fun _ h => h.elim⟩, fun _ => False, fun _ => False⟩) : YG m Γ φs (tPlain ts) po := fun F H σ ys E al D q =>
  h F H σ E (D.at ys) ⟨fun σ' F' H' Γ' x E' n => q.nx σ' F' H' Γ' ys φs x E' (al.mono x) n, fun σ' F' H' Γ' v x E' n => n.elim, fun σ' F' H' Γ' x E' n => n.elim, fun σ' F' H' Γ' x E' n => n.elim⟩
theorem y_then {N : List En → List FP → Prop} (h : YG m Γ φs tg { po with nx := N }) (k : ∀ Γ' φs', N Γ' φs' → YG m Γ' φs' tu po) : YG m Γ φs (tGThen tg tu) po := fun F H σ ys E al D q =>
  h F H σ ys E al { D with nx := fun ys' σ' H' => tu D ys' σ' H' } ⟨fun σ' F' H' Γ' ys' φs' x E' al' n => k Γ' φs' n F' H' σ' ys' E' al' D (q.mono x), q.rt⟩
/-- a plain statement, then the rest -/
theorem y_seq (h : SG m Γ ts ⟨fun Γ' => YG m Γ' φs tu po, ⟨fun _ _ => False, fun _ h => h.elim⟩, fun _ => False, fun _ => False⟩) : YG m Γ φs (tGThen (tPlain ts) tu) po :=
  y_then (N := fun Γ' φs' => YG m Γ' φs' tu po) (y_plain h) fun _ _ h => h
theorem y_nil (h : po.nx Γ φs) : YG m Γ φs tG0 po := fun F H σ ys E al D q => q.nx σ F H Γ ys φs (Ex.refl F) E al h
theorem y_yield (h : EG m Γ te φ) (hl : φs.length < 100000) (k : po.nx Γ (φs ++ [φ])) : YG m Γ φs (tGYield te) po := fun F H σ ys E al D q =>
  ⟨sz_lt (by rw [al_len al]; exact hl), h F H σ E _ fun v F1 H1 x E1 p => q.nx σ F1 H1 Γ (ys ++ [v]) (φs ++ [φ]) x.f E1 (al_app (al.mono x.f) (.cons p .nil)) k⟩
theorem y_for (it : IT m Γ wi items) (I : Nat → List En → List FP → Prop) (h0 : I 0 Γ φs) (hs : ∀ (i : Nat) φ Γ' φs', items[i]? = some φ → I i Γ' φs' → ∃ Γ2, TGo m Γ' g φ Γ2 ∧ YG m Γ2 φs' tg ⟨I (i + 1), po.rt⟩)
    (hd : ∀ Γ' φs', I items.length Γ' φs' → po.nx Γ' φs') : YG m Γ φs (tGFor wi g tg) po := fun F H σ ys E al D q => by
  refine it.run F H σ E _ fun J G Y F1 H1 x E1 W hG hY => ?_
  have q1 := q.mono x.f
  refine gfor_it W (D := D) (fun i ys' σ' H' => ∃ F' Γ' φs', Ex F1 F' ∧ GE m F' H' σ' Γ' ∧ Al F' ys' φs' ∧ I i Γ' φs') ⟨F1, Γ, φs, Ex.refl F1, E1, al.mono x.f, h0⟩ (fun i ys' σ' H' _ ⟨F', Γ', φs', a, b, _⟩ => hG F' H' a b.fh) (fun i v ys' σ' H2 H2' hi ⟨F', Γ', φs', a, b, al', c⟩ y => ?_) (fun ys' σ' H' ⟨F', Γ', φs', a, b, al', c⟩ => q1.nx σ' F' H' Γ' ys' φs' a b al' (hd Γ' φs' c))
  have hφ := List.getElem?_eq_getElem hi
  obtain ⟨F'', x2', pv, ge⟩ := hY i _ v F' H2 H2' hφ a b.fh y
  have a2 := x2'.f
  obtain ⟨Γ2, ht, hsg⟩ := hs i _ Γ' φs' hφ c
  refine ht F'' H2' σ' (ge σ' Γ' b) v pv _ fun σ2 F3 H3 x3 E3 => ?_
  exact hsg F3 H3 σ2 ys' E3 (al'.mono (a2.trans x3)) _ ⟨fun σ4 F4 H4 Γ4 ys4 φs4 x4 E4 al4 n => ⟨F4, Γ4, φs4, ((a.trans a2).trans x3).trans x4, E4, al4, n⟩, fun σ4 F4 H4 Γ4 ys4 φs4 x4 E4 al4 n => q1.rt σ4 F4 H4 Γ4 ys4 φs4 (((a.trans a2).trans x3).trans x4) E4 al4 n⟩
theorem s_asgE {i : Nat} {po : Po} (h : EG m Γ te φ) {α : Type} {S : α → Prop} {f : α → FP} (e : φ = FP.ex S f) (k : ∀ a, S a → po.nx (Γ.set i (.fx (f a)))) : SG m Γ (tAsg te (gName i)) po := fun F H σ E D q => h F H σ E _ fun v F1 H1 x E1 p => by
  subst e
  obtain ⟨a, ha, p⟩ := p
  exact q.nx _ F1 H1 _ x.f (E1.setF p) (k a ha)
/-- the promise of a generator def -/
def spGG (Φ : List En → List FP → Prop) : SpG := fun vs H Q _ => ∃ (m : Fm) (as : List En) (φs : List FP), Φ as φs ∧ m.H0 = H ∧ Ags m m.F0 vs as ∧ GE m m.F0 H [] [] ∧ ∀ ys F' H' σ' Γ', GE m F' H' σ' Γ' → Al F' ys φs → Q ys H'
theorem spGG_len {Φ : List En → List FP → Prop} {vs : List V} {H : Hp} {Q : List V → Hp → Prop} {E : XK} {n : Nat} (h : spGG Φ vs H Q E) (hn : ∀ as φs, Φ as φs → as.length = n) : vs.length = n := by
  obtain ⟨m, as, φs, hΦ, _, ha, _⟩ := h
  rw [Paired.length ha, hn as φs hΦ]
theorem spGG_body {N : List Str} {Φ : List En → List FP → Prop} {vs : List V} {H : Hp} {Q : List V → Hp → Prop} {E : XK} {ts : TGn} (h : spGG Φ vs H Q E) (hb : ∀ m as φs, Φ as φs → YG m (pads N.length as) [] ts ⟨fun _ φs' => φs' = φs, fun φs' => φs' = φs⟩) :
    ts { nx := fun ys _ H' => Q ys H', rt := fun ys v H' => v = .non ∧ Q ys H' } [] (L2.start N vs) H := by
  obtain ⟨m, as, φs, hΦ, hH, ha, hE, k⟩ := h
  exact hb m as φs hΦ m.F0 H _ [] (ge_start hE ha) .nil _ ⟨fun σ' F' H' Γ' ys φs' _ E' al e => k ys F' H' σ' Γ' E' (e ▸ al), fun σ' F' H' Γ' ys φs' _ E' al e => ⟨rfl, k ys F' H' σ' Γ' E' (e ▸ al)⟩⟩
/-- list(f(..)) -/
theorem eo_listG {Φ : List En → List FP → Prop} {t : TA} {es : List En} (h : AG m Γ t es) (hΦ : Φ es φs) : EO m Γ (tListG (tCallG (spGG Φ) [] XE t)) (OwL φs) := fun F H σ E Q q => h F H σ E _ fun vs F1 H1 x1 E1 p1 => by
  refine ⟨⟨F1, H1, m.M⟩, es, φs, hΦ, rfl, ?_, ge_call E1, fun ys F' H' σ' Γ' E' al => ?_⟩
  · rw [List.append_nil]
    exact Paired.mapP p1 (fun v e r => by cases e <;> exact r)
  · obtain ⟨E2, x2⟩ := ge_ret E1 E'
    intro p hp
    exact eo_new (R := OwL φs) (o := .lst ys) E2 hp (Ex.new hp) upd_same ⟨ys, rfl, al⟩ fun p o F3 H3 x3 E3 nf hp' => q p o F3 H3 ((x1.trans x2).trans x3) E3 nf (back_none (x1.trans x2) hp')
end
/-- calls in a generator's body -/
theorem pxg {P : Program} {w : World} {K : PySem.W.Frag} {mg : Str → Option Value} {base : Heap} {N : List Str} {qual : Str} {sc : Scope} {f : Addr} {cdv : Value} {A : Around} {outer : List Env} {s : Shared} {H : Hp} {E : XK} {pn : List (Addr × Obj)} :
    Passes (L2.CX P w) (gcxOf P w K mg base N qual sc f cdv A outer s H E pn) E := passes_call takes_gcx (fun _ _ _ _ h => h)
/-- no exception at all -/
def XK0 : XK := fun _ _ _ => False
theorem px0 {P : Program} {w : World} {K : PySem.W.Frag} {mg : Str → Option Value} {base : Heap} {N : List Str} {qual : Str} {sc : Scope} {f : Addr} {cdv : Value} {A : Around} {outer : List Env} {s : Shared} {H : Hp} {E : XK} :
    Passes (L2.CX P w) (cxOf (L2.CX P w) P w K mg base N qual sc f cdv A outer s H E) XK0 := passes_call (takes_of rfl rfl rfl rfl) (fun _ _ _ _ h => h.elim)
theorem noStop0 {K : PySem.W.Frag} : NoStop K XK0 := fun _ _ _ h => h.elim
/-- a generator def of the program -/
def GenR (P : Program) (w : World) (K : PySem.W.Frag) (mg : Str → Option Value) (base : Heap) (k : Nat) (f : Addr) (ps : List Str) (sp : SpG) : Prop := ∃ fd, GFn P w K mg base k f fd ps sp ∧ Binds K fd ps []
theorem gen_of {P : Program} {w : World} {K : PySem.W.Frag} {mg : Str → Option Value} {base : Heap} {k : Nat} {f : Addr} {name qual : Str} {params : Arguments} {body : List Stmt} {scope : Scope} {fd : FuncData} {N ps : List Str} {sp : SpG} (F : FunD K name qual params body scope [] [] f fd) (b : Binds K fd ps []) (S : GScope N ps scope)
    (len : ∀ vs H Q E, sp vs H Q E → vs.length = ps.length)
    (hbody : ∀ (cdv : Value) (A : Around) (outer : List Env) (s : Shared) (H : Hp) (vs : List V) (Q : List V → Hp → Prop) (E : XK) (pn : List (Addr × Obj)), Room k (A.deeper (envOfC qual scope s.heap.objs.size f cdv)) → sp vs H Q E →
      ∃ t, GSs (gcxOf P w K mg base N qual scope f cdv A outer s H E pn) body t ∧ t { nx := fun ys _ H' => Q ys H', rt := fun ys v H' => v = .non ∧ Q ys H' } [] (start N vs) H) : GenR P w K mg base (k + 1) f ps sp := by
  obtain ⟨oc, od, dV, kV, doc, pm, an, cdv, ct, osl, rfl, lk, hcd, _, _⟩ := F.ex
  exact ⟨_, gfn_of lk hcd S len fun A outer s H vs Q E pn hr h => hbody cdv A outer s H vs Q E pn hr h, b⟩
end SB

set_option maxHeartbeats 4000000
namespace SB
open PySem PySem.Spec PyProof.Rows L2
open TL (tl)
open Evl
/-! ### range with a step -/
def cntR (a h c : Nat) : Nat := if a < h then (h - a - 1) / c + 1 else 0
theorem cntR_lt {a h c i : Nat} (hc : 0 < c) (hi : i < cntR a h c) : a + i * c < h := by
  unfold cntR at hi
  split at hi
  · have h1 : i ≤ (h - a - 1) / c := by omega
    have h2 := Nat.mul_le_mul_right c h1
    have h3 := Nat.div_mul_le_self (h - a - 1) c
    omega
  · omega
theorem cntR_le {a h c : Nat} : cntR a h c ≤ h := by
  unfold cntR
  split
  · have := Nat.div_le_self (h - a - 1) c
    omega
  · omega
theorem rgc_up {a h c : Nat} (ha : a ≤ 1000000) (hh : h ≤ 1000000) (h0 : 0 < c) (hc : c ≤ 1000000) : RgC (a : Int) (h : Int) (c : Int) (cntR a h c) := by
  have sz : Builtin.Range.rangeSize (a : Int) (h : Int) (c : Int) = (cntR a h c : Nat) := by
    unfold Builtin.Range.rangeSize cntR
    rw [if_pos (by omega : (c : Int) > 0)]
    by_cases q : a < h
    · rw [if_pos (by omega : (a : Int) < h), if_pos q]
      rw [show (h : Int) - (a : Int) - 1 = ((h - a - 1 : Nat) : Int) by omega]
      push_cast
      rfl
    · rw [if_neg (by omega : ¬ (a : Int) < h), if_neg q]
      rfl
  refine ⟨by omega, by omega, ?_, sz⟩
  unfold Builtin.Range.small
  rw [sz]
  have := cntR_le (a := a) (h := h) (c := c)
  simp only [Builtin.Range.rangeFitsLong, Bool.and_eq_true, Bool.or_eq_true, decide_eq_true_eq, beq_iff_eq, if_pos (by omega : (c : Int) > 0)]
  omega
/-! ### what is walked, its bounds drawn -/
def ITE {α : Type} (m : Fm) (Γ : List En) (wi : TI) (S : α → Prop) (items : α → List FP) : Prop := ∀ (F H : Hp) (σ : L2.St), GE m F H σ Γ → ∀ R : It → Hp → Prop, (∀ a, S a → ∀ (J : It) (G : Hp → Prop) (Y : Nat → Hp → V → Hp → Prop) F1 H1, XF m F H F1 H1 → GE m F1 H1 σ Γ → Walk J (items a).length G Y → (∀ F' H', Ex F1 F' → Ex F' H' → G H') →
    (∀ (i : Nat) φ x F' H2 H2', (items a)[i]? = some φ → Ex F1 F' → Ex F' H2 → Y i H2 x H2' → ∃ F'', XF m F' H2 F'' H2' ∧ φ.p F'' x ∧ ∀ σ' Γ', GE m F' H2 σ' Γ' → GE m F'' H2' σ' Γ') → R J H1) → wi σ H R
section
variable {m : Fm} {K : PySem.W.Frag} {Γ Γ' : List En} {ta tb te : TE} {t u : TT} {φ φ1 φ2 ψ : FP} {r : R2} {R : OP} {tu tw tz : TS} {po : Po} {g : TG} {wi : TI} {items : List FP}
theorem it_rng3 {ta : TA} {S1 S3 : Nat → Prop} {h : Nat} (ha : AG m Γ ta [.fx (FP.ex S1 fun a => Dd K (iD a)), .fx (Dd K (iD h)), .fx (FP.ex S3 fun c => Dd K (iD c))]) (h1 : ∀ a, S1 a → a ≤ 1000000) (hh : h ≤ 1000000) (h3 : ∀ c, S3 c → 0 < c ∧ c ≤ 1000000) :
    ITE m Γ (iRng3 ta) (fun ac : Nat × Nat => S1 ac.1 ∧ S3 ac.2) (fun ac => (List.range (cntR ac.1 h ac.2)).map fun (i : Nat) => Dd K (iD (ac.1 + i * ac.2))) := fun F H σ E R k => ha F H σ E _ fun vs F1 H1 x E1 p => by
  obtain ⟨v1, v2, v3, rfl, p1, p2, p3⟩ := ags3 p
  obtain ⟨a, sa, p1⟩ := p1
  obtain ⟨c, sc, p3⟩ := p3
  have hc := h3 c sc
  refine ⟨(a : Int), (h : Int), (c : Int), cntR a h c, by rw [dd_int (i := (a : Int)) p1, dd_int (i := (h : Int)) p2, dd_int (i := (c : Int)) p3], rgc_up (h1 a sa) hh hc.1 hc.2, ?_⟩
  refine k (a, c) ⟨sa, sc⟩ (Itc (a : Int) (c : Int) (cntR a h c)) (fun _ => True) (YFn fun i => .int ((a : Int) + (i : Nat) * (c : Int))) F1 H1 x E1 (by rw [List.length_map, List.length_range]; exact walk_rangeC) (fun _ _ _ _ => trivial) fun i φ x F' H2 H2' hi a1 b y => ?_
  obtain ⟨rfl, rfl⟩ := y
  rw [List.getElem?_map] at hi
  obtain ⟨j, hj, rfl⟩ := Option.map_eq_some_iff.mp hi
  obtain ⟨_, hj2⟩ := List.getElem?_eq_some_iff.mp hj
  have : j = i := by rw [← hj2]; simp
  subst this
  refine ⟨F', XF.refl, ?_, fun _ _ g => g⟩
  have e : ((a : Int) + (j : Nat) * (c : Int)) = ((a + j * c : Nat) : Int) := by push_cast; rfl
  show Dq K F' (.int ((a : Int) + (j : Nat) * (c : Int))) (iD (a + j * c))
  rw [e]
  exact Dq.int _
theorem q_forE {α : Type} {S : α → Prop} {items : α → List FP} (it : ITE m Γ wi S items) (I : α → Nat → List En → Prop) (h0 : ∀ a, S a → I a 0 Γ) (hs : ∀ a, S a → ∀ (i : Nat) φ Γ', (items a)[i]? = some φ → I a i Γ' → ∃ Γ2, TGo m Γ' g φ Γ2 ∧ SG m Γ2 tu ⟨I a (i + 1), po.rt, fun _ => False, I a (i + 1)⟩)
    (hd : ∀ a, S a → ∀ Γ', I a (items a).length Γ' → SG m Γ' tz po) : SG m Γ (tSeq (tFor wi g tu) tz) po := fun F H σ E D q => by
  refine it F H σ E _ fun a sa J G Y F1 H1 x E1 W hG hY => ?_
  have q1 := q.mono x.f
  refine for_it W (D := { D with nx := tz D }) (fun i σ' H' => ∃ F' Γ', Ex F1 F' ∧ GE m F' H' σ' Γ' ∧ I a i Γ') ⟨F1, Γ, Ex.refl F1, E1, h0 a sa⟩ (fun i σ' H' _ ⟨F', Γ', a', b, _⟩ => hG F' H' a' b.fh) (fun i v σ' H2 H2' hi ⟨F', Γ', a', b, c⟩ y => ?_) (fun σ' H' ⟨F', Γ', a', b, c⟩ => hd a sa Γ' c F' H' σ' b D (q1.mono a'))
  have hφ := List.getElem?_eq_getElem hi
  obtain ⟨F'', x2', pv, ge⟩ := hY i _ v F' H2 H2' hφ a' b.fh y
  have a2 := x2'.f
  obtain ⟨Γ2, ht, hsg⟩ := hs a sa i _ Γ' hφ c
  refine ht F'' H2' σ' (ge σ' Γ' b) v pv _ fun σ2 F3 H3 x3 E3 => ?_
  refine hsg F3 H3 σ2 E3 _ ⟨fun σ4 F4 H4 Γ4 x4 E4 n => ⟨F4, Γ4, ((a'.trans a2).trans x3).trans x4, E4, n⟩, fun σ4 F4 H4 Γ4 v x4 E4 n => q1.rt σ4 F4 H4 Γ4 v (((a'.trans a2).trans x3).trans x4) E4 n, fun σ4 F4 H4 Γ4 x4 E4 n => n.elim, fun σ4 F4 H4 Γ4 x4 E4 n => ⟨F4, Γ4, ((a'.trans a2).trans x3).trans x4, E4, n⟩⟩
/-- t + u, none of them empty -/
theorem eg_catA {φs ψs : List FP} (ha : EG m Γ ta (TupF K φs)) (hb : EG m Γ tb (TupF K ψs)) (h1 : φs ≠ []) (h2 : ψs ≠ []) (hl : φs.length + ψs.length ≤ 100000) : EG m Γ (tOp (rCatA K) ta tb) (TupF K (φs ++ ψs)) := fun F H σ E Q q =>
  ha F H σ E _ fun x F1 H1 x1 E1 ⟨p, vs, e, hs, al⟩ => hb F1 H1 σ E1 _ fun y F2 H2 x2 E2 ⟨p2, ws, e2, hs2, al2⟩ => by
    subst e e2
    have n1 : vs ≠ [] := fun e => h1 (List.length_eq_zero_iff.mp (by rw [← al_len al, e]; rfl))
    have n2 : ws ≠ [] := fun e => h2 (List.length_eq_zero_iff.mp (by rw [← al_len al2, e]; rfl))
    refine ⟨p, p2, vs, ws, rfl, rfl, st_of ((x2.f.trans E2.fh) _ _ hs), st_of (E2.fh _ _ hs2), ?_, fun e => absurd e n1, fun _ e => absurd e n2, fun _ _ b hb => ?_⟩
    · rw [al_len al, al_len al2]
      exact sz_of hl
    · obtain ⟨E3, x3⟩ := E2.new (o := .tup (vs ++ ws)) (Ex.new hb) hb upd_same
      exact q _ _ _ ((x1.trans x2).trans (XF.new hb (fresh_F E2 hb) (Ex.new hb))) E3 ⟨b, _, rfl, upd_same, (al_app (al.mono x2.f) al2).mono x3⟩
end
/-! ### the law's own def -/
def spLaw (K : PySem.W.Frag) : Sp := fun vs H Q _ => ∃ (sc : Addr) (ns : List Int), vs = [.ref sc] ∧ SqL K H sc (ns.map V.int) ∧ ns.length ≤ 63 ∧ ∀ H', Q (.bl true) H'
/-- the source of draws is made, and the rest goes on without the heap -/
theorem law_start {K : PySem.W.Frag} {N : List Str} {n salt : Nat} {sc : Addr} {ns : List Int} {H : Hp} {Q : VK} {XE : XK} {tz : TS} (hN : N.length = n + 2) (hs : SqL K H sc (ns.map V.int)) (hl : ns.length ≤ 63) (k : ∀ H', Q (.bl true) H')
    (body : ∀ m, SG m (.un :: .dr :: List.replicate n .un) tz ⟨fun _ => False, Dd K (.bool true), fun _ => False, fun _ => False⟩) :
    tSeq (tAsg (tCallR (spRandom K) XE (tCons (tVar 0) (tCons (tC (.int (salt : Int))) tNil))) (gName 1)) tz { nx := fun _ H' => Q .non H', rt := Q } (L2.start N [.ref sc]) H := by
  refine ⟨.ref sc, rfl, sc, ns, salt, rfl, hs, hl, fun p H' hp e d => ?_⟩
  obtain ⟨xs, hx, _⟩ := id d
  have len : (L2.start N [.ref sc]).length = n + 2 := by
    unfold L2.start
    simp only [List.length_append, List.length_map, List.length_replicate, List.length_cons, List.length_nil]
    omega
  refine body ⟨fun _ => none, H', some p⟩ (fun _ => none) H' _ ⟨fun a o h => (by cases h), Ex.refl _, fun a o h => (by cases h), fun a o _ h => h, fun a h => ?_, ?_, fun i en h => ?_, fun i j a R S _ hR => ?_⟩ _ ⟨fun _ _ _ _ _ _ h => h.elim, fun σ' F' H' Γ' v _ _ h => ?_, fun _ _ _ _ _ _ h => h.elim, fun _ _ _ _ _ _ h => h.elim⟩
  · cases h
    exact ⟨d, rfl, _, hx⟩
  · rw [List.length_set, len]
    simp
  · have hi : i < n + 2 := by
      have := (List.getElem?_eq_some_iff.mp h).1
      simpa using this
    match i, h, hi with
    | 0, h, _ =>
      cases h
      exact ⟨_, List.getElem?_eq_getElem (by rw [List.length_set, len]; omega), trivial⟩
    | 1, h, _ =>
      cases h
      exact ⟨_, List.getElem?_set_self (by rw [len]; omega), p, rfl, rfl⟩
    | i + 2, h, hi =>
      have : en = .un := List.eq_of_mem_replicate (List.mem_of_getElem? (i := i) (by simpa using h))
      subst this
      exact ⟨_, List.getElem?_eq_getElem (by rw [List.length_set, len]; omega), trivial⟩
  · exfalso
    match i, hR with
    | 0, h => cases h
    | 1, h => cases h
    | i + 2, h => cases List.eq_of_mem_replicate (List.mem_of_getElem? (i := i) (l := List.replicate n En.un) (by simpa using h))
  · rw [dd_bl h]
    exact k H'
/-! ### less is known -/
def Wk : List En → List En → Prop := Paired fun a b => b = .un ∨ a = b
theorem Wk.refl : ∀ Γ : List En, Wk Γ Γ
  | [] => .nil
  | _ :: r => .cons (.inr rfl) (Wk.refl r)
theorem Wk.trans : ∀ {Γ Γ1 Γ2 : List En}, Wk Γ Γ1 → Wk Γ1 Γ2 → Wk Γ Γ2
  | _, _, _, .nil, .nil => .nil
  | _, _, _, .cons a r, .cons b q => .cons (by
    rcases b with b | b
    · exact .inl b
    · rcases a with a | a
      · exact .inl (b ▸ a)
      · exact .inr (a.trans b)) (Wk.trans r q)
theorem Wk.at {Γ Γ0 : List En} (h : Wk Γ Γ0) : ∀ {i : Nat} {e : En}, Γ0[i]? = some e → e = .un ∨ Γ[i]? = some e := by
  induction h with
  | nil => intro i e h; simp at h
  | @cons a r b r0 h1 h2 ih =>
    intro i e h
    cases i with
    | zero =>
      simp at h
      subst h
      rcases h1 with h1 | h1
      · exact .inl h1
      · exact .inr (by simp [h1])
    | succ i => simpa using ih (by simpa using h)
theorem GE.wk {m : Fm} {F H : Hp} {σ : L2.St} {Γ Γ0 : List En} (h : Wk Γ Γ0) (E : GE m F H σ Γ) : GE m F H σ Γ0 := by
  refine ⟨E.fh, E.base, E.fresh, E.frame, E.dr, by rw [E.len]; exact Paired.length h, fun i e q => ?_, fun i j p R S n hi hj a b => ?_⟩
  · rcases h.at q with rfl | q2
    · have hl : i < σ.length := by
        rw [E.len, Paired.length h]
        exact (List.getElem?_eq_some_iff.mp q).1
      exact ⟨_, List.getElem?_eq_getElem hl, trivial⟩
    · exact E.slot i e q2
  · rcases h.at hi with z | hi
    · cases z
    rcases h.at hj with z | hj
    · cases z
    exact E.sep i j p R S n hi hj a b
section
variable {m : Fm} {K : PySem.W.Frag} {Γ Γ' Γ0 : List En} {ta tb te : TE} {t : TT} {φ φ1 φ2 ψ : FP} {tu tw tz ts : TS} {po : Po} {g : TG} {wi : TI} {items : List FP} {tA : TA} {es : List En} {XE : XK}
theorem sg_wk (h : Wk Γ Γ0) (k : SG m Γ0 ts po) : SG m Γ ts po := fun F H σ E D q => k F H σ (E.wk h) D q
theorem TGo.wk (h : Wk Γ Γ0) (k : TGo m Γ0 g φ Γ') : TGo m Γ g φ Γ' := fun F H σ E v p Q q => k F H σ (E.wk h) v p Q q
/-- a loop by what is known ahead of each turn -/
theorem q_forK (it : IT m Γ wi items) (Γs : Nat → List En) (h0 : Wk Γ (Γs 0)) (hs : ∀ (i : Nat) φ, items[i]? = some φ → ∃ Γ2, TGo m (Γs i) g φ Γ2 ∧ SG m Γ2 tu ⟨fun Γ' => Wk Γ' (Γs (i + 1)), po.rt, fun _ => False, fun Γ' => Wk Γ' (Γs (i + 1))⟩)
    (hd : SG m (Γs items.length) tz po) : SG m Γ (tSeq (tFor wi g tu) tz) po :=
  q_forG it (fun i Γ' => Wk Γ' (Γs i)) h0 (fun i φ Γ' hi h => by
    obtain ⟨Γ2, h1, h2⟩ := hs i φ hi
    exact ⟨Γ2, h1.wk h, h2⟩) fun Γ' h => sg_wk h hd
theorem s_forK (it : IT m Γ wi items) (Γs : Nat → List En) (h0 : Wk Γ (Γs 0)) (hs : ∀ (i : Nat) φ, items[i]? = some φ → ∃ Γ2, TGo m (Γs i) g φ Γ2 ∧ SG m Γ2 tu ⟨fun Γ' => Wk Γ' (Γs (i + 1)), po.rt, fun _ => False, fun Γ' => Wk Γ' (Γs (i + 1))⟩)
    (hd : ∀ Γ', Wk Γ' (Γs items.length) → po.nx Γ') : SG m Γ (tFor wi g tu) po :=
  s_forG it (fun i Γ' => Wk Γ' (Γs i)) h0 (fun i φ Γ' hi h => by
    obtain ⟨Γ2, h1, h2⟩ := hs i φ hi
    exact ⟨Γ2, h1.wk h, h2⟩) hd
theorem q_forEK {α : Type} {S : α → Prop} {items : α → List FP} (it : ITE m Γ wi S items) (Γs : α → Nat → List En) (h0 : ∀ a, S a → Wk Γ (Γs a 0)) (hs : ∀ a, S a → ∀ (i : Nat) φ, (items a)[i]? = some φ → ∃ Γ2, TGo m (Γs a i) g φ Γ2 ∧ SG m Γ2 tu ⟨fun Γ' => Wk Γ' (Γs a (i + 1)), po.rt, fun _ => False, fun Γ' => Wk Γ' (Γs a (i + 1))⟩)
    (hd : ∀ a, S a → SG m (Γs a (items a).length) tz po) : SG m Γ (tSeq (tFor wi g tu) tz) po :=
  q_forE it (fun a i Γ' => Wk Γ' (Γs a i)) h0 (fun a sa i φ Γ' hi h => by
    obtain ⟨Γ2, h1, h2⟩ := hs a sa i φ hi
    exact ⟨Γ2, h1.wk h, h2⟩) fun a sa Γ' h => sg_wk h (hd a sa)
/-! ### the forms of a law -/
theorem q_lawE (h : EG m Γ te (Dd K (.bool true))) (k : SG m Γ tz po) : SG m Γ (tSeq (tIfS (tNot (tB te)) tu tNext) tz) po := q_skip (bg_not (bg_B h)) (fun h => by cases h) fun _ => k
theorem s_lawE (h : EG m Γ te (Dd K (.bool true))) (k : po.nx Γ) : SG m Γ (tIfS (tNot (tB te)) tu tNext) po := s_whenG (bg_not (bg_B h)) (fun h => by cases h) fun _ => k
/-- a comprehension, by its items -/
theorem eg_lcN {vs : List Nat} {n : Nat} (f : Nat → PyData) (it : IT m Γ wi items) (hn : items.length = n) (hz : n ≤ 100000) (nv : ∀ i ∈ vs, ∀ R, Γ[i]? ≠ some (.oo R))
    (hs : ∀ (i : Nat) φ, i < n → items[i]? = some φ → ∃ Γ2, TV m (wipeG Γ vs) g φ Γ2 vs ∧ EG m Γ2 te (Dd K (f i))) : EG m Γ (tLc wi g tYes te vs) (Dd K (.list ((List.range n).map f))) := by
  subst hn
  have h := eo_lcM (te := te) (g := g) it hz nv (fun i => Dd K (f i)) fun i φ hi => hs i φ (List.getElem?_eq_some_iff.mp hi).1 hi
  refine eg_eoD ?_
  rw [List.map_map]
  exact h
theorem eg_lcF {vs : List Nat} {n : Nat} (p : Nat → Bool) (f : Nat → PyData) (it : IT m Γ wi items) (hn : items.length = n) (hz : n ≤ 100000) (nv : ∀ i ∈ vs, ∀ R, Γ[i]? ≠ some (.oo R))
    (hs : ∀ (i : Nat) φ, i < n → items[i]? = some φ → ∃ Γ2, TV m (wipeG Γ vs) g φ Γ2 vs ∧ BG m Γ2 t (· = p i) ∧ (p i = true → EG m Γ2 te (Dd K (f i)))) : EG m Γ (tLc wi g t te vs) (Dd K (.list (((List.range n).filter p).map f))) := by
  subst hn
  have h := eo_lc (te := te) (t := t) (g := g) it hz nv (fun i => if p i = true then some (Dd K (f i)) else none) fun i φ hi => by
    obtain ⟨Γ2, h1, h2, h3⟩ := hs i φ (List.getElem?_eq_some_iff.mp hi).1 hi
    refine ⟨Γ2, h1, bg_is h2 (by cases p i <;> rfl), fun χ e => ?_⟩
    cases q : p i with
    | true =>
      rw [q, if_pos rfl] at e
      cases e
      exact h3 q
    | false =>
      rw [q, if_neg (by decide)] at e
      cases e
  refine eg_eoD ?_
  rw [List.map_map]
  have e : ∀ l : List Nat, l.filterMap (fun i => if p i = true then some (Dd K (f i)) else none) = (l.filter p).map (Dd K ∘ f) := fun l => by
    induction l with
    | nil => rfl
    | cons a r ih =>
      cases q : p a with
      | true => simp [q, ih]
      | false => simp [q, ih]
  rw [e] at h
  exact h
/-- a call whose second argument is one of many -/
theorem eg_callE2 {α : Type} {R : α → Prop} {gf : α → FP} {e0 : En} {Φ : List En → FP → Prop} (h : AG m Γ tA (e0 :: .fx (FP.ex R gf) :: es)) (hΦ : ∀ a, R a → ∃ ψ', Φ (e0 :: .fx (gf a) :: es) ψ' ∧ ψ'.le ψ) : EG m Γ (tCallR (spG Φ) XE tA) ψ := fun F H σ E Q q => h F H σ E _ fun vs F1 H1 x1 E1 p1 => by
  cases p1 with
  | cons p0 p1 =>
    cases p1 with
    | cons p t1 =>
      obtain ⟨a, ra, p⟩ := p
      obtain ⟨ψ', h1, h2⟩ := hΦ a ra
      refine ⟨⟨F1, H1, m.M⟩, e0 :: .fx (gf a) :: es, ψ', h1, rfl, .cons (by cases e0 <;> exact p0) (.cons p (Paired.mapP t1 (fun v e r => by cases e <;> exact r))), ge_call E1, fun v F' H' σ' Γ' E' p => ?_⟩
      obtain ⟨E2, x2⟩ := ge_ret E1 E'
      exact q v F' H' (x1.trans x2) E2 (h2 p)
end
theorem LawPl.up {n k : Nat} {Pl : Plm} (h : LawPl n Pl) (l : n ≤ k) : LawPl k Pl := ⟨h.ok, h.rep, h.c8, Nat.le_trans h.n0 (by omega), Nat.le_trans h.n1 (by omega)⟩
end SB

set_option maxHeartbeats 4000000
namespace SB
open PySem PySem.Spec PyProof.Rows L2
open TL (tl)
open Evl
/-! ### data in the heap, not frozen: what no expression changes -/
def sans (m : Fm) (H : Hp) : Hp := fun p => if m.M = some p then none else H p
theorem sans_of {m : Fm} {H : Hp} {p : Addr} {o : HO} (h : H p = some o) (n : m.M ≠ some p) : sans m H p = some o := by
  unfold sans
  rw [if_neg n]
  exact h
theorem sans_is {m : Fm} {H : Hp} {p : Addr} {o : HO} (h : sans m H p = some o) : H p = some o ∧ m.M ≠ some p := by
  unfold sans at h
  split at h
  · cases h
  · rename_i n
    exact ⟨h, n⟩
theorem sans_le {m : Fm} {H : Hp} : Ex (sans m H) H := fun p o h => (sans_is h).1
theorem XF.sans {m : Fm} {F H F1 H1 : Hp} (x : XF m F H F1 H1) : Ex (sans m H) (sans m H1) := fun p o h => sans_of (x.k p o (sans_is h).2 (sans_is h).1) (sans_is h).2
theorem GE.sansF {m : Fm} {F H : Hp} {σ : L2.St} {Γ : List En} (E : GE m F H σ Γ) : Ex F (sans m H) := fun p o h => sans_of (E.fh p o h) fun e => by
  obtain ⟨_, hf, _⟩ := E.dr p e
  rw [h] at hf
  cases hf
theorem sans_grow {m : Fm} {H H1 : Hp} (e : Ex H H1) : Ex (sans m H) (sans m H1) := fun p o h => sans_of (e p o (sans_is h).1) (sans_is h).2
def EH (K : PySem.W.Frag) (m : Fm) (Γ : List En) (te : TE) (d : PyData) : Prop := ∀ (F H : Hp) (σ : L2.St), GE m F H σ Γ → ∀ Q : VK, (∀ v F1 H1, XF m F H F1 H1 → GE m F1 H1 σ Γ → Dq K (sans m H1) v d → Q v H1) → te σ H Q
def AH (K : PySem.W.Frag) (m : Fm) (Γ : List En) (ta : TA) (ds : List PyData) : Prop := ∀ (F H : Hp) (σ : L2.St), GE m F H σ Γ → ∀ Q : List V → Hp → Prop, (∀ vs F1 H1, XF m F H F1 H1 → GE m F1 H1 σ Γ → DqAll K (sans m H1) vs ds → Q vs H1) → ta σ H Q
section
variable {m : Fm} {K : PySem.W.Frag} {Γ Γ' : List En} {ta tb te : TE} {tA : TA} {tz tu : TS} {po : Po} {φ ψ : FP} {d e : PyData} {ds : List PyData} {R : OP} {XE : XK} {es : List En}
theorem eh_eg (h : EG m Γ te (Dd K d)) : EH K m Γ te d := fun F H σ E Q q => h F H σ E Q fun v F1 H1 x E1 p => q v F1 H1 x E1 (dq_ex E1.sansF p)
theorem eh_own {k : Nat} (hk : Γ[k]? = some (.oo (OwL (ds.map (Dd K))))) : EH K m Γ (tVar k) (.list ds) := fun F H σ E Q q => by
  obtain ⟨w, hw, p, o, e, nf, n0, ho, vs, eo, al⟩ := E.slot k _ hk
  subst e eo
  exact ⟨_, hw, q _ F H XF.refl E (.lst (sans_of ho (E.nM n0)) (dqAll_ex E.sansF (al_dp al)))⟩
theorem ah_nil : AH K m Γ tNil [] := fun F H σ E Q q => q [] F H XF.refl E .nil
theorem ah_cons {tr : TA} (h : EH K m Γ te d) (hr : AH K m Γ tr ds) : AH K m Γ (tCons te tr) (d :: ds) := fun F H σ E Q q =>
  h F H σ E _ fun v F1 H1 x1 E1 p1 => hr F1 H1 σ E1 _ fun vs F2 H2 x2 E2 p2 => q _ F2 H2 (x1.trans x2) E2 (.cons (dq_ex x2.sans p1) p2)
theorem eh_lst (h : AH K m Γ tA ds) (hl : ds.length ≤ 100000) : EH K m Γ (tLst tA) (.list ds) := fun F H σ E Q q => h F H σ E _ fun vs F1 H1 x1 E1 p1 => by
  refine ⟨sz_of (by rw [dqAll_len p1]; exact hl), fun p hp => ?_⟩
  have x2 : Ex H1 (upd H1 p (.lst vs)) := Ex.new hp
  exact q _ F1 _ (x1.grow x2) (E1.grow x2) (.lst (sans_of upd_same (E1.nM (E1.fresh0 hp))) (dqAll_ex (sans_grow x2) p1))
theorem eh_tup (h : AH K m Γ tA ds) (hl : ds.length ≤ 100000) : EH K m Γ (tTup tA) (.tuple ds) := fun F H σ E Q q => h F H σ E _ fun vs F1 H1 x1 E1 p1 => by
  refine ⟨sz_of (by rw [dqAll_len p1]; exact hl), fun p hp => ?_⟩
  have x2 : Ex H1 (upd H1 p (.tup vs)) := Ex.new hp
  exact q _ F1 _ (x1.grow x2) (E1.grow x2) (.tup (sans_of upd_same (E1.nM (E1.fresh0 hp))) (dqAll_ex (sans_grow x2) p1))
theorem eh_eqD (ha : EH K m Γ ta d) (hb : EH K m Γ tb e) (h1 : SeqAt.shaped d = true) (h2 : SeqAt.shaped e = true) : EG m Γ (tOp (rEqD K) ta tb) (Dd K (.bool (PyData.eqv d e))) := fun F H σ E Q q =>
  ha F H σ E _ fun x F1 H1 x1 E1 p1 => hb F1 H1 σ E1 _ fun y F2 H2 x2 E2 p2 => ⟨d, e, dq_dp (dq_ex (x2.sans.trans sans_le) p1), dq_dp (dq_ex sans_le p2), h1, h2, q _ F2 H2 (x1.trans x2) E2 (Dq.bl _)⟩
theorem eh_neD (ha : EH K m Γ ta d) (hb : EH K m Γ tb e) (h1 : SeqAt.shaped d = true) (h2 : SeqAt.shaped e = true) : EG m Γ (tOp (rNeD K) ta tb) (Dd K (.bool (!PyData.eqv d e))) := fun F H σ E Q q =>
  ha F H σ E _ fun x F1 H1 x1 E1 p1 => hb F1 H1 σ E1 _ fun y F2 H2 x2 E2 p2 => ⟨d, e, dq_dp (dq_ex (x2.sans.trans sans_le) p1), dq_dp (dq_ex sans_le p2), h1, h2, q _ F2 H2 (x1.trans x2) E2 (Dq.bl _)⟩
/-! ### defs that give a new object of one's own -/
def spGO (Φ : List En → OP → Prop) : Sp := fun vs H Q _ => ∃ (m : Fm) (as : List En) (R : OP), Φ as R ∧ m.H0 = H ∧ Ags m m.F0 vs as ∧ GE m m.F0 H [] [] ∧ ∀ p o F' H' σ' Γ', GE m F' H' σ' Γ' → F' p = none → m.H0 p = none → H' p = some o → R.r F' p o → Q (.ref p) H'
theorem spGO_len {Φ : List En → OP → Prop} {vs : List V} {H : Hp} {Q : VK} {E : XK} {n : Nat} (h : spGO Φ vs H Q E) (hn : ∀ as R, Φ as R → as.length = n) : vs.length = n := by
  obtain ⟨m, as, R, hΦ, _, ha, _⟩ := h
  rw [Paired.length ha, hn as R hΦ]
/-- such a body: every way ends in a return of what is new -/
def SGO (m : Fm) (Γ : List En) (ts : TS) (R : OP) : Prop := ∀ (F H : Hp) (σ : L2.St), GE m F H σ Γ → ∀ Qn : L2.St → Hp → Prop, ∀ Q : VK, (∀ p o F' H' σ' Γ', Ex F F' → GE m F' H' σ' Γ' → F' p = none → m.H0 p = none → H' p = some o → R.r F' p o → Q (.ref p) H') → ts { nx := Qn, rt := Q } σ H
theorem spGO_body {N : List Str} {Φ : List En → OP → Prop} {vs : List V} {H : Hp} {Q : VK} {E : XK} {ts : TS} (h : spGO Φ vs H Q E) (hb : ∀ m as R, Φ as R → SGO m (pads N.length as) ts R) : ts { nx := fun _ H' => Q .non H', rt := Q } (L2.start N vs) H := by
  obtain ⟨m, as, R, hΦ, hH, ha, hE, k⟩ := h
  exact hb m as R hΦ m.F0 H _ (ge_start hE ha) _ _ fun p o F' H' σ' Γ' _ E' => k p o F' H' σ' Γ' E'
theorem so_ret (h : EO m Γ te R) : SGO m Γ (tRet te) R := fun F H σ E Qn Q q => h F H σ E _ fun p o F1 H1 x E1 nf hp ho n0 hr na => q p o F1 H1 σ Γ x.f E1 nf n0 ho hr
theorem so_seq {N : List En → Prop} (h : SG m Γ tu ⟨N, ⟨fun _ _ => False, fun _ h => h.elim⟩, fun _ => False, fun _ => False⟩) (k : ∀ Γ', N Γ' → SGO m Γ' tz R) : SGO m Γ (tSeq tu tz) R := fun F H σ E Qn Q q =>
  h F H σ E { nx := tz { nx := Qn, rt := Q }, rt := Q } ⟨fun σ' F' H' Γ' x E' n => k Γ' n F' H' σ' E' Qn Q fun p o F2 H2 σ2 Γ2 x2 => q p o F2 H2 σ2 Γ2 (x.trans x2), fun σ' F' H' Γ' v x E' n => n.elim, fun _ _ _ _ _ _ n => n.elim, fun _ _ _ _ _ _ n => n.elim⟩
theorem eo_call {Φ : List En → OP → Prop} (h : AG m Γ tA es) (hΦ : Φ es R) : EO m Γ (tCallR (spGO Φ) XE tA) R := fun F H σ E Q q => h F H σ E _ fun vs F1 H1 x1 E1 p1 =>
  ⟨⟨F1, H1, m.M⟩, es, R, hΦ, rfl, Paired.mapP p1 (fun v e r => by cases e <;> exact r), ge_call E1, fun p o F' H' σ' Γ' E' nf n0 ho hr => by
    obtain ⟨E2, x2⟩ := ge_ret E1 E'
    have n1 : H1 p = none := n0
    exact q p o F' H' (x1.trans x2) E2 nf (back_none x1 n1) ho (E1.fresh0 n1) hr (E1.alone n1)⟩
/-! ### a, b, .. = x, y, ..: some of them one's own -/
def MArg (m : Fm) (F H : Hp) (σ : L2.St) (Γ : List En) (v : V) : En → Prop
  | .fx φ => φ.p F v
  | .oo R => ∃ p o, v = .ref p ∧ F p = none ∧ H p = some o ∧ m.H0 p = none ∧ R.r F p o ∧ ∀ (i : Nat) S, Γ[i]? = some (.oo S) → σ[i]? ≠ some (some (.ref p))
  | _ => False
/-- the values of es, what is one's own apart -/
inductive MArgs (m : Fm) (F H : Hp) (σ : L2.St) (Γ : List En) : List V → List En → Prop
  | nil : MArgs m F H σ Γ [] []
  | cons {v : V} {vs : List V} {e : En} {es : List En} : MArg m F H σ Γ v e → (∀ R p, e = .oo R → v = .ref p → ∀ (j : Nat) S, es[j]? = some (.oo S) → vs[j]? ≠ some (.ref p)) → MArgs m F H σ Γ vs es → MArgs m F H σ Γ (v :: vs) (e :: es)
def AM (m : Fm) (Γ : List En) (ta : TA) (es : List En) : Prop := ∀ (F H : Hp) (σ : L2.St), GE m F H σ Γ → ∀ Q : List V → Hp → Prop, (∀ vs F1 H1, XF m F H F1 H1 → GE m F1 H1 σ Γ → MArgs m F1 H1 σ Γ vs es → (∀ (j : Nat) S p, es[j]? = some (.oo S) → vs[j]? = some (.ref p) → H p = none) → Q vs H1) → ta σ H Q
theorem am_nil : AM m Γ tNil [] := fun F H σ E Q q => q [] F H XF.refl E .nil fun j S p h => by simp at h
theorem MArg.mono {F H F1 H1 : Hp} {σ : L2.St} {v : V} {e : En} (E : GE m F H σ Γ) (x : XF m F H F1 H1) (h : MArg m F H σ Γ v e) : MArg m F1 H1 σ Γ v e := by
  cases e with
  | fx φ => exact φ.mono x.f h
  | oo R =>
    obtain ⟨p, o, e, nf, ho, n0, hr, na⟩ := h
    refine ⟨p, o, e, ?_, x.k p o (E.nM n0) ho, n0, R.mono x.f hr, na⟩
    cases z : F1 p with
    | none => rfl
    | some u =>
      have := x.n p u z nf
      rw [ho] at this
      cases this
  | dr => exact h
  | un => exact h
theorem am_fx {tr : TA} (h : EG m Γ te φ) (hr : AM m Γ tr es) : AM m Γ (tCons te tr) (.fx φ :: es) := fun F H σ E Q q =>
  h F H σ E _ fun v F1 H1 x1 E1 p1 => hr F1 H1 σ E1 _ fun vs F2 H2 x2 E2 p2 nw => q _ F2 H2 (x1.trans x2) E2 (.cons (φ.mono x2.f p1) (fun R p e => by cases e) p2) fun j S p hj hv => by
    cases j with
    | zero => simp at hj
    | succ j => exact back_none x1 (nw j S p (by simpa using hj) (by simpa using hv))
theorem am_oo {tr : TA} (h : EO m Γ te R) (hr : AM m Γ tr es) : AM m Γ (tCons te tr) (.oo R :: es) := fun F H σ E Q q =>
  h F H σ E _ fun p o F1 H1 x1 E1 nf hp ho n0 hR na => hr F1 H1 σ E1 _ fun vs F2 H2 x2 E2 p2 nw => by
    have a1 : MArg m F1 H1 σ Γ (.ref p) (.oo R) := ⟨p, o, rfl, nf, ho, n0, hR, na⟩
    refine q _ F2 H2 (x1.trans x2) E2 (.cons (a1.mono E1 x2) (fun R' p' e ev j S hj hv => ?_) p2) fun j S p' hj hv => ?_
    · cases ev
      have := nw j S p hj hv
      rw [ho] at this
      cases this
    · cases j with
      | zero =>
        simp at hv
        rw [← hv]
        exact hp
      | succ j => exact back_none x1 (nw j S p' (by simpa using hj) (by simpa using hv))
/-- the slots after the stores -/
def setE : List En → List Nat → List En → List En
  | Γ, i :: is, e :: es => setE (Γ.set i e) is es
  | Γ, _, _ => Γ
theorem MArgs.len {F H : Hp} {σ : L2.St} {vs : List V} {es : List En} (h : MArgs m F H σ Γ vs es) : vs.length = es.length := by
  induction h with
  | nil => rfl
  | cons _ _ _ ih => simp [ih]
theorem MArgs.mono {F H H2 : Hp} {σ : L2.St} {vs : List V} {es : List En} (E : GE m F H σ Γ) (x : XF m F H F H2) (h : MArgs m F H σ Γ vs es) : MArgs m F H2 σ Γ vs es := by
  induction h with
  | nil => exact .nil
  | cons a b c ih => exact .cons (a.mono E x) b ih
def setV : L2.St → List Nat → List V → L2.St
  | σ, i :: is, v :: vs => setV (σ.set i (some v)) is vs
  | σ, _, _ => σ
theorem MArgs.next {F H : Hp} {σ : L2.St} {Γ : List En} {i : Nat} {v : V} {vs : List V} {e : En} {es : List En} (E : GE m F H σ Γ) (h : MArg m F H σ Γ v e) (hd : ∀ R p, e = .oo R → v = .ref p → ∀ (j : Nat) S, es[j]? = some (.oo S) → vs[j]? ≠ some (.ref p)) (hs : MArgs m F H σ Γ vs es) : MArgs m F H (σ.set i (some v)) (Γ.set i e) vs es := by
  have goA : ∀ {v' : V} {e' : En}, MArg m F H σ Γ v' e' → (∀ R p S, e = .oo R → v = .ref p → e' = .oo S → v' ≠ .ref p) → MArg m F H (σ.set i (some v)) (Γ.set i e) v' e' := by
    intro v' e' a ne
    cases e' with
    | fx φ => exact a
    | dr => exact a
    | un => exact a
    | oo S =>
      obtain ⟨p', o, ev, nf, ho, n0, hr, na⟩ := a
      refine ⟨p', o, ev, nf, ho, n0, hr, fun j S' hj hσ => ?_⟩
      rcases getSet hj with ⟨rfl, eS, l⟩ | ⟨n, hj⟩
      · rw [List.getElem?_set_self (by rw [E.len]; exact l)] at hσ
        have ev2 : v = .ref p' := Option.some.inj (Option.some.inj hσ)
        exact ne _ p' S eS ev2 rfl ev
      · rw [List.getElem?_set_ne n] at hσ
        exact na j S' hj hσ
  have go : ∀ {vs : List V} {es : List En}, MArgs m F H σ Γ vs es → (∀ R p, e = .oo R → v = .ref p → ∀ (j : Nat) S, es[j]? = some (.oo S) → vs[j]? ≠ some (.ref p)) → MArgs m F H (σ.set i (some v)) (Γ.set i e) vs es := by
    intro vs es hs
    induction hs with
    | nil => intro _; exact .nil
    | cons h1 h2 h3 ih =>
      intro ne
      refine .cons (goA h1 fun R p S a b c d => ?_) h2 (ih fun R p a b j S hj => by simpa using ne R p a b (j + 1) S (by simpa using hj))
      exact ne R p a b 0 S (by simp [c]) (by simp [d])
  exact go hs hd
theorem MArgs.stored {F H : Hp} : ∀ {is : List Nat} {vs : List V} {es : List En} {σ : L2.St} {Γ : List En} {Q : L2.St → Hp → Prop}, is.length = es.length → GE m F H σ Γ → MArgs m F H σ Γ vs es → (∀ σ', GE m F H σ' (setE Γ is es) → Q σ' H) → is.foldr (fun i g => gCons (gName i) g) gNil vs σ H Q
  | [], _, es, σ, Γ, Q, hl, E, h, q => by
    cases h with
    | nil => exact ⟨rfl, q σ E⟩
    | cons _ _ _ => simp at hl
  | i :: is, _, _, σ, Γ, Q, hl, E, h0, q => by
    cases h0 with
    | nil => simp at hl
    | @cons v vs e es h hd hs =>
    refine ⟨v, vs, rfl, ?_⟩
    have E1 : GE m F H (σ.set i (some v)) (Γ.set i e) := by
      refine E.set ?_ fun R p eR ev j S hj hS => ?_
      · cases e with
        | fx φ => exact ⟨v, rfl, h⟩
        | oo R =>
          obtain ⟨p, o, ev, nf, ho, n0, hr, na⟩ := h
          exact ⟨p, o, by rw [ev], nf, n0, ho, hr⟩
        | dr => exact h.elim
        | un => trivial
      · subst eR ev
        obtain ⟨p', o, ev, nf, ho, n0, hr, na⟩ := h
        cases ev
        exact na j S hS
    exact MArgs.stored (is := is) (by simpa using hl) E1 (MArgs.next E h hd hs) q
/-- a, b, .. = x, y, .. -/
theorem q_parM {is : List Nat} {gs : TGs} {n : Nat} (h : AM m Γ tA es) (hg : gs = is.foldr (fun i g => gCons (gName i) g) gNil) (hl : is.length = es.length) (hn : es.length = n) (hz : es.length ≤ 1000) (k : SG m (setE Γ is es) tz po) : SG m Γ (tSeq (tAsg (tTup tA) (gTup K n gs)) tz) po := fun F H σ E D q =>
  h F H σ E _ fun vs F1 H1 x1 E1 p1 _ => by
    have lv := p1.len
    subst hg
    refine ⟨sz_of (by omega), fun t ht => ?_⟩
    have x2 : Ex H1 (upd H1 t (.tup vs)) := Ex.new ht
    refine ⟨t, vs, rfl, st_of upd_same, lv.trans hn, ?_⟩
    have xf : XF m F1 H1 F1 (upd H1 t (.tup vs)) := XF.refl.grow x2
    have p2 : MArgs m F1 (upd H1 t (.tup vs)) σ Γ vs es := p1.mono E1 xf
    exact MArgs.stored hl (E1.grow x2) p2 fun σ' E' => k F1 _ σ' E' D (q.mono x1.f)
theorem MArgs.slots {F H : Hp} : ∀ {is : List Nat} {vs : List V} {es : List En} {σ : L2.St} {Γ : List En}, is.length = es.length → GE m F H σ Γ → MArgs m F H σ Γ vs es → GE m F H (setV σ is vs) (setE Γ is es)
  | [], _, es, σ, Γ, hl, E, h => by
    cases h with
    | nil => exact E
    | cons _ _ _ => simp at hl
  | i :: is, _, _, σ, Γ, hl, E, h0 => by
    cases h0 with
    | nil => simp at hl
    | @cons v vs e es h hd hs =>
      have E1 : GE m F H (σ.set i (some v)) (Γ.set i e) := by
        refine E.set ?_ fun R p eR ev j S hj hS => ?_
        · cases e with
          | fx φ => exact ⟨v, rfl, h⟩
          | oo R =>
            obtain ⟨p, o, ev, nf, ho, n0, hr, na⟩ := h
            exact ⟨p, o, by rw [ev], nf, n0, ho, hr⟩
          | dr => exact h.elim
          | un => trivial
        · subst eR ev
          obtain ⟨p', o, ev, nf, ho, n0, hr, na⟩ := h
          cases ev
          exact na j S hS
      exact MArgs.slots (is := is) (by simpa using hl) E1 (MArgs.next E h hd hs)
theorem q_par2M {i j : Nat} {e1 e2 : En} (h : AM m Γ tA [e1, e2]) (k : SG m (setE Γ [i, j] [e1, e2]) tz po) : SG m Γ (tSeq (tPar i j tA) tz) po := fun F H σ E D q =>
  h F H σ E _ fun vs F1 H1 x1 E1 p1 _ => by
    have E2 := p1.slots (is := [i, j]) rfl E1
    have l := p1.len
    match vs, l with
    | [v1, v2], _ => exact ⟨v1, v2, rfl, k F1 H1 _ E2 D (q.mono x1.f)⟩
theorem q_par3M {i j l : Nat} {e1 e2 e3 : En} (h : AM m Γ tA [e1, e2, e3]) (k : SG m (setE Γ [i, j, l] [e1, e2, e3]) tz po) : SG m Γ (tSeq (tPar3 i j l tA) tz) po := fun F H σ E D q =>
  h F H σ E _ fun vs F1 H1 x1 E1 p1 _ => by
    have E2 := p1.slots (is := [i, j, l]) rfl E1
    have l := p1.len
    match vs, l with
    | [v1, v2, v3], _ => exact ⟨v1, v2, v3, rfl, k F1 H1 _ E2 D (q.mono x1.f)⟩
theorem s_whileG {t : TT} (I : Nat → List En → Prop) (B : List En → Prop) (k0 : Nat) (h0 : I k0 Γ) (hs : ∀ k Γ', I k Γ' → ∃ P : Bool → Prop, BG m Γ' t P ∧ (P true → SG m Γ' tu ⟨fun Γ2 => ∃ k', k' < k ∧ I k' Γ2, po.rt, B, fun Γ2 => ∃ k', k' < k ∧ I k' Γ2⟩) ∧ (P false → po.nx Γ')) (hb : ∀ Γ', B Γ' → po.nx Γ') : SG m Γ (tWhile t tu) po := fun F H σ E D q =>
  q_whileG (tz := tNext) (po := po) I B k0 h0 (fun k Γ' h => by
    obtain ⟨P, h1, h2, h3⟩ := hs k Γ' h
    exact ⟨P, h1, h2, fun p => sg_next (h3 p)⟩) (fun Γ' h => sg_next (hb Γ' h)) F H σ E D q
end
theorem lookD_ne {f : Nat → FP} {P : Plm} {n : Nat} {S : Sit} (h : lookD (kvsOf keyL f P n) (keyL S) = none) (i : Nat) (hi : i < n) : sitAt P i ≠ S := fun e => by
  unfold lookD at h
  have := List.find?_eq_none.mp (Option.map_eq_none_iff.mp h) (keyL (sitAt P i), f i) (List.mem_map.mpr ⟨i, List.mem_range.mpr hi, rfl⟩)
  simp [e] at this
section
variable {m : Fm} {K : PySem.W.Frag} {Γ : List En} {ta tb te : TE} {φ ψ : FP}
theorem s_augG {i : Nat} {f : Int → Int → Int} {a b : Int} {po : Po} (hx : Γ[i]? = some (.fx (Dd K (.int a)))) (h : EG m Γ te (Dd K (.int b))) (k : po.nx (Γ.set i (.fx (Dd K (.int (f a b)))))) : SG m Γ (tAug i te (ipI f)) po := fun F H σ E D q => q_augG (tz := tNext) (po := po) hx h (sg_next k) F H σ E D q
/-- one of the items, drawn -/
theorem eg_pickF {φs : List FP} {n : Nat} (ha : EG m Γ ta (LstF K φs)) (hb : EG m Γ tb (LtF K n)) (hn : n ≤ φs.length) (hψ : ∀ φ ∈ φs, φ.le ψ) : EG m Γ (tOp (rIxL K) ta tb) ψ :=
  eg_op ha hb fun F H x y e ⟨p, vs, ex, hs, al⟩ ⟨r, hr, p2⟩ => by
    subst ex
    have h : atI φs (r : Int) = some (φs[r]'(by omega)) := at_nat' (List.getElem?_eq_getElem (by omega))
    obtain ⟨v, h1, h2⟩ := al_at al h
    rw [dd_int (i := (r : Int)) p2]
    exact ⟨v, hψ _ (List.getElem_mem _) h2, rv_ixL (sq_of (e _ _ hs)) h1⟩
/-- a number less a drawn one -/
theorem eg_subE {i : Int} {α : Type} {R : α → Prop} {g : α → Int} (ha : EG m Γ ta (Dd K (.int i))) (hb : EG m Γ tb (FP.ex R fun a => Dd K (.int (g a)))) : EG m Γ (tOp (rI0 fun i j => .int (i - j)) ta tb) (FP.ex R fun a => Dd K (.int (i - g a))) :=
  eg_op ha hb fun F H x y e p1 ⟨a, ra, p2⟩ => by
    rw [dd_int p1, dd_int p2]
    exact ⟨_, ⟨a, ra, Dq.int _⟩, rv_I0⟩
/-- a drawn number and one that is known -/
theorem eg_opE {j : Int} {α : Type} {R : α → Prop} {g : α → Int} {h : Int → Int → Int} (ha : EG m Γ ta (FP.ex R fun a => Dd K (.int (g a)))) (hb : EG m Γ tb (Dd K (.int j))) : EG m Γ (tOp (rI0 fun i j => .int (h i j)) ta tb) (FP.ex R fun a => Dd K (.int (h (g a) j))) :=
  eg_op ha hb fun F H x y e ⟨a, ra, p1⟩ p2 => by
    rw [dd_int p1, dd_int p2]
    exact ⟨_, ⟨a, ra, Dq.int _⟩, rv_I0⟩
/-- two drawn numbers -/
theorem eg_op2 {α β : Type} {R : α → Prop} {S : β → Prop} {f : α → Int} {g : β → Int} {h : Int → Int → Int} (ha : EG m Γ ta (FP.ex R fun a => Dd K (.int (f a)))) (hb : EG m Γ tb (FP.ex S fun b => Dd K (.int (g b)))) : EG m Γ (tOp (rI0 fun i j => .int (h i j)) ta tb) (FP.ex (fun p : α × β => R p.1 ∧ S p.2) fun p => Dd K (.int (h (f p.1) (g p.2)))) :=
  eg_op ha hb fun F H x y e ⟨a, ra, p1⟩ ⟨b, rb, p2⟩ => by
    rw [dd_int p1, dd_int p2]
    exact ⟨_, ⟨(a, b), ⟨ra, rb⟩, Dq.int _⟩, rv_I0⟩
/-- a number told by one of many -/
theorem ex_nat {α : Type} {R : α → Prop} {g : α → Int} {S : Nat → Prop} (h : ∀ a, R a → 0 ≤ g a ∧ S (g a).toNat) : (FP.ex R fun a => Dd K (.int (g a))).le (FP.ex S fun n => Dd K (iD n)) := fun {F v} ⟨a, ra, p⟩ => by
  obtain ⟨h0, h1⟩ := h a ra
  refine ⟨(g a).toNat, h1, ?_⟩
  show (Dd K (.int ((g a).toNat : Int))).p F v
  rw [Int.toNat_of_nonneg h0]
  exact p
end
theorem keptM_law {b l t : Nat} : (if t < b + l then t else b + (t - b) % l) = keptM b l t := by
  unfold keptM
  by_cases h : t < b
  · rw [if_pos h, if_pos (by omega)]
  · rw [if_neg h]
    by_cases h2 : t < b + l
    · rw [if_pos h2, Nat.mod_eq_of_lt (by omega)]
      omega
    · rw [if_neg h2]
end SB

set_option maxHeartbeats 4000000
namespace SB
open PySem PySem.Spec PyProof.Rows L2
open TL (tl)
open Evl
variable {P : Program} {w : World} {K : PySem.W.Frag} {mg : Str → Option Value} {base : Heap}


theorem ok__law_equal (T : Txt K mg) : ∀ n : Nat, FnR P w K mg base (L2.CX P w) n (He.ga K "_law_equal") (spEq n) := by
  have KP : PySem.W.keepIn K (.ref (He.ga K "_law_equal")) = true := by
    obtain ⟨_, F⟩ := T.F__law_equal
    exact F.kp
  have b0 : FnR P w K mg base (L2.CX P w) 0 (He.ga K "_law_equal") (spEq 0) := fun A outer s H us vs Q E _ _ _ h => by
    obtain ⟨x, y, _, hE, _⟩ := h
    exact hE.elim
  intro n
  induction n with
  | zero => exact b0
  | succ n ih => exact ok__law_equal_S T ih KP
mutual
/-- data of at most n levels, at most 1000 items each -/
def fitsD : Nat → PyData → Bool
  | 0, _ => false
  | _ + 1, .none => true
  | _ + 1, .bool _ => true
  | _ + 1, .int _ => true
  | _ + 1, .str _ => true
  | n + 1, .list ds => decide (ds.length ≤ 1000) && fitsDs n ds
  | n + 1, .tuple ds => decide (ds.length ≤ 1000) && fitsDs n ds
  | _ + 1, _ => false
def fitsDs : Nat → List PyData → Bool
  | _, [] => true
  | n, d :: ds => fitsD n d && fitsDs n ds
end
theorem fits_at {n : Nat} : ∀ {ds : List PyData} {d : PyData}, fitsDs n ds = true → d ∈ ds → fitsD n d = true
  | e :: ds, d, h, hd => by
    have h : (fitsD n e && fitsDs n ds) = true := by
      cases n <;> exact h
    rw [Bool.and_eq_true_iff] at h
    rcases List.mem_cons.mp hd with q | q
    · rw [q]
      exact h.1
    · exact fits_at h.2 q
theorem fits_all {n : Nat} : ∀ {ds : List PyData}, (∀ d ∈ ds, fitsD n d = true) → fitsDs n ds = true
  | [], _ => by cases n <;> rfl
  | e :: ds, h => by
    have : (fitsD n e && fitsDs n ds) = true := by
      rw [h e (List.mem_cons_self ..), fits_all fun d hd => h d (List.mem_cons_of_mem _ hd)]
      rfl
    cases n <;> exact this
theorem fits_list {n : Nat} {ds : List PyData} (hl : ds.length ≤ 1000) (h : ∀ d ∈ ds, fitsD n d = true) : fitsD (n + 1) (.list ds) = true := by
  show (decide (ds.length ≤ 1000) && fitsDs n ds) = true
  rw [decide_eq_true hl, fits_all h]
  rfl
theorem fits_tuple {n : Nat} {ds : List PyData} (hl : ds.length ≤ 1000) (h : ∀ d ∈ ds, fitsD n d = true) : fitsD (n + 1) (.tuple ds) = true := by
  show (decide (ds.length ≤ 1000) && fitsDs n ds) = true
  rw [decide_eq_true hl, fits_all h]
  rfl
theorem fits_ints {n : Nat} {l : List Nat} (hl : l.length ≤ 1000) : fitsD (n + 2) (.list (intsD l)) = true := fits_list (by unfold intsD; rw [List.length_map]; exact hl) fun d hd => by
  obtain ⟨x, _, rfl⟩ := List.mem_map.mp hd
  rfl
theorem fits_intsT {n : Nat} {l : List Nat} (hl : l.length ≤ 1000) : fitsD (n + 2) (.tuple (intsD l)) = true := fits_tuple (by unfold intsD; rw [List.length_map]; exact hl) fun d hd => by
  obtain ⟨x, _, rfl⟩ := List.mem_map.mp hd
  rfl
theorem fits_boolsT {n : Nat} {l : List Bool} (hl : l.length ≤ 1000) : fitsD (n + 2) (.tuple (boolsD l)) = true := fits_tuple (by unfold boolsD; rw [List.length_map]; exact hl) fun d hd => by
  obtain ⟨x, _, rfl⟩ := List.mem_map.mp hd
  rfl
theorem dqAll_get {K : PySem.W.Frag} {F : Hp} : ∀ {vs : List V} {ds : List PyData} {i : Nat} {v : V}, DqAll K F vs ds → vs[i]? = some v → ∃ d, ds[i]? = some d ∧ Dq K F v d
  | _, _, i, v, .nil, h => by simp at h
  | _, _, 0, v, .cons r t, h => by
    simp at h
    subst h
    exact ⟨_, rfl, r⟩
  | _, _, i + 1, v, .cons r t, h => by
    simp at h
    simpa using dqAll_get t h
theorem eqv_dq {K : PySem.W.Frag} {F : Hp} : ∀ {n : Nat} {d : PyData} {x y : V}, fitsD n d = true → Dq K F x d → Dq K F y d → EqV n F x y
  | 0, d, x, y, h, _, _ => by
    unfold fitsD at h
    cases h
  | n + 1, d, x, y, h, a, b => by
    cases a with
    | non => cases b; exact .inl ⟨rfl, rfl⟩
    | bl c => cases b; exact .inr (.inl ⟨c, rfl, rfl⟩)
    | int i => cases b; exact .inr (.inr (.inr (.inl ⟨i, rfl, rfl⟩)))
    | str z => cases b; exact .inr (.inr (.inl ⟨z, rfl, rfl⟩))
    | @lst p us ds hp al =>
      cases b with
      | @lst q vs _ hq bl =>
        have h : (decide (ds.length ≤ 1000) && fitsDs n ds) = true := h
        rw [Bool.and_eq_true_iff] at h
        have hl := of_decide_eq_true h.1
        refine .inr (.inr (.inr (.inr ⟨p, q, us, vs, rfl, rfl, .inl ⟨hp, hq⟩, (dqAll_len al).trans (dqAll_len bl).symm, by rw [dqAll_len al]; exact hl, fun i u v hu hv => ?_⟩)))
        obtain ⟨d1, e1, r1⟩ := dqAll_get al hu
        obtain ⟨d2, e2, r2⟩ := dqAll_get bl hv
        rw [e1] at e2
        cases e2
        exact eqv_dq (fits_at h.2 (List.mem_of_getElem? e1)) r1 r2
    | @tup p us ds hp al =>
      cases b with
      | @tup q vs _ hq bl =>
        have h : (decide (ds.length ≤ 1000) && fitsDs n ds) = true := h
        rw [Bool.and_eq_true_iff] at h
        have hl := of_decide_eq_true h.1
        refine .inr (.inr (.inr (.inr ⟨p, q, us, vs, rfl, rfl, .inr ⟨hp, hq⟩, (dqAll_len al).trans (dqAll_len bl).symm, by rw [dqAll_len al]; exact hl, fun i u v hu hv => ?_⟩)))
        obtain ⟨d1, e1, r1⟩ := dqAll_get al hu
        obtain ⟨d2, e2, r2⟩ := dqAll_get bl hv
        rw [e1] at e2
        cases e2
        exact eqv_dq (fits_at h.2 (List.mem_of_getElem? e1)) r1 r2
section
variable {m : Fm} {K : PySem.W.Frag} {Γ : List En} {ta tb te : TE} {XE : XK}
/-- two values that are told by the same data -/
theorem eg_equal {n : Nat} {d : PyData} (h : EG m Γ ta (Dd K d)) (h2 : EG m Γ tb (Dd K d)) (hf : fitsD n d = true) : EG m Γ (tCallR (spEq n) XE (tCons ta (tCons tb tNil))) (Dd K (.bool true)) := eg_callO (ag_cons h (ag_cons h2 ag_nil)) fun F H vs e p Q q => by
  obtain ⟨x, y, rfl, p1, p2⟩ := ags2 p
  exact ⟨x, y, rfl, (eqv_dq hf p1 p2).ex e, fun H' e' => q _ H' e' fun F' _ _ => Dq.bl true⟩
theorem eg_equalH {n : Nat} {d : PyData} (h : EH K m Γ ta d) (h2 : EH K m Γ tb d) (hf : fitsD n d = true) : EG m Γ (tCallR (spEq n) XE (tCons ta (tCons tb tNil))) (Dd K (.bool true)) := fun F H σ E Q q =>
  h F H σ E _ fun v F1 H1 x1 E1 p1 => h2 F1 H1 σ E1 _ fun w F2 H2 x2 E2 p2 =>
    ⟨v, w, rfl, eqv_dq hf (dq_ex (x2.sans.trans sans_le) p1) (dq_ex sans_le p2), fun H' e => q _ F2 H' ((x1.trans x2).grow e) (E2.grow e) (Dq.bl true)⟩
theorem planD_of {F : Hp} {v : V} {P : Plm} (h : Dq K F v (planD P)) : PlanD F v P := by
  have hInts : ∀ {vs : List V} {l : List Nat}, DqAll K F vs (intsD l) → vs = l.map fun (n : Nat) => V.int n := by
    intro vs l
    induction l generalizing vs with
    | nil => intro a; cases a; rfl
    | cons x r ih =>
      intro a
      cases a with
      | cons r1 t1 => cases r1; rw [ih t1]; rfl
  have hSteps : ∀ {vs : List V} {l : List Lk}, DqAll K F vs (l.map stepD) → All (LkAt F) vs l := by
    intro vs l
    induction l generalizing vs with
    | nil => intro a; cases a; exact .nil
    | cons x r ih =>
      intro a
      cases a with
      | cons r1 t1 =>
        refine .cons ?_ (ih t1)
        cases r1 with
        | tup hp al =>
          cases al with
          | cons a1 al =>
            cases a1
            cases al with
            | cons a2 al =>
              cases al
              refine ⟨_, rfl, ?_⟩
              rw [hp]
              cases q : x.2 with
              | none => rw [q] at a2; cases a2; rfl
              | some k => rw [q] at a2; cases a2; rfl
  cases h with
  | tup ht al =>
    cases al with
    | cons a1 al =>
      cases al with
      | cons a2 al =>
        cases al with
        | cons a3 al =>
          cases al
          cases a1 with
          | tup hsh b1 =>
            cases a2 with
            | tup hst b2 =>
              cases a3 with
              | lst hls b3 =>
                cases b3 with
                | cons c1 b3 =>
                  cases b3 with
                  | cons c2 b3 =>
                    cases b3
                    cases c1 with
                    | lst h0 k0 =>
                      cases c2 with
                      | lst h1 k1 =>
                        rw [hInts b1] at hsh
                        rw [hInts (l := [P.a, P.b]) b2] at hst
                        exact ⟨_, _, _, _, _, _, _, _, rfl, ht, hsh, hst, hls, h0, h1, hSteps k0, hSteps k1⟩
theorem PlanD.ex {F H : Hp} {v : V} {P : Plm} (e : Ex F H) (h : PlanD F v P) : PlanD H v P := by
  obtain ⟨t, sh, st, ls, s0, s1, w0, w1, rfl, h⟩ := h
  exact ⟨t, sh, st, ls, s0, s1, w0, w1, rfl, e _ _ h.ht, e _ _ h.hsh, e _ _ h.hst, e _ _ h.hls, e _ _ h.h0, e _ _ h.h1, h.k0.imp fun v x r => r.ex e, h.k1.imp fun v x r => r.ex e⟩
/-- the plan's text -/
theorem eg_lawText {Pl : Plm} (h : EG m Γ te (Dd K (planD Pl))) (hP : PlanOk Pl) : EG m Γ (tCallR spLText XE (tCons te tNil)) (Dd K (.str (planText Pl))) := eg_callO (ag_cons h ag_nil) fun F H vs e p Q q => by
  obtain ⟨v, rfl, p1⟩ := ags1 p
  exact ⟨v, Pl, rfl, (planD_of p1).ex e, hP.pl, fun H' e' => q _ H' e' fun F' _ _ => Dq.str _⟩
end

end SB

set_option maxHeartbeats 4000000
namespace SB
open PySem PySem.Spec PyProof.Rows L2
open TL (tl)
open Evl
variable {P : Program} {w : World} {K : PySem.W.Frag} {mg : Str → Option Value} {base : Heap}


end SB

set_option maxHeartbeats 4000000
namespace SB
open PySem PySem.Spec PyProof.Rows L2
open TL (tl)
open Evl
variable {P : Program} {w : World} {K : PySem.W.Frag} {mg : Str → Option Value} {base : Heap}


def PhRobot (K : PySem.W.Frag) (as : List En) (ψ : FP) : Prop := ∃ r : Nat, r < 2 ∧ as = [.fx (Dd K (iD r))] ∧ ψ = Dd K .none
def PhDone (K : PySem.W.Frag) (as : List En) (ψ : FP) : Prop := ∃ z Pl r w n, Txts z Pl ∧ r < 2 ∧ n ≤ 1000000000000000000 ∧ as = [.fx (Dd K (.str z)), .fx (Dd K (iD r)), .fx (Dd K (.str w)), .fx (Dd K (iD n))] ∧ ψ = Dd K (iD (countM Pl r w n))
def PhBlocked (K : PySem.W.Frag) (as : List En) (ψ : FP) : Prop := ∃ z Pl r n, Txts z Pl ∧ r < 2 ∧ n ≤ 1000000000000000000 ∧ as = [.fx (Dd K (.str z)), .fx (Dd K (iD r)), .fx (Dd K (iD n))] ∧ ψ = Dd K (iD (countM Pl r "blocked" n))
def PhError (K : PySem.W.Frag) (as : List En) (ψ : FP) : Prop := ∃ z Pl ws, Txts z Pl ∧ ws.length ≤ 100000 ∧ (∀ w ∈ ws, WOk w) ∧ as = [.fx (Dd K (.str z)), .fx (Dd K (.list (ws.map wordsD)))] ∧ ψ = Dd K (optD (errM Pl ws))


def PhNum (K : PySem.W.Frag) (as : List En) (ψ : FP) : Prop := ∃ r n : Nat, r ≤ n ∧ as = [.fx (Dd K (iD r)), .fx (Dd K (iD n))] ∧ ψ = Dd K .none






end SB

set_option maxHeartbeats 4000000
namespace SB
open PySem PySem.Spec PyProof.Rows L2
open TL (tl)
open Evl
/-- a plan that repeats has a cycle -/
theorem Repeats.cyc {P : Plm} : ∀ {n : Nat}, Repeats P n → ∃ b l, Cyc P b l ∧ b + l ≤ n
  | 0, ⟨i, j, h1, h2, _⟩ => absurd h2 (by omega)
  | n + 1, h => by
    by_cases c : Repeats P n
    · obtain ⟨b, l, h1, h2⟩ := c.cyc
      exact ⟨b, l, h1, by omega⟩
    · obtain ⟨i, j, h1, h2, e⟩ := h
      have hj : j = n + 1 := by
        by_cases q : j = n + 1
        · exact q
        · exact absurd ⟨i, j, h1, by omega, e⟩ c
      subst hj
      refine ⟨i, n + 1 - i, ⟨by omega, fun a b hab hb e2 => c ⟨a, b, hab, by omega, e2⟩, ?_⟩, by omega⟩
      rw [show i + (n + 1 - i) = n + 1 by omega]
      exact e.symm
/-- blocked in all ticks of the cycle -/
def stuckC (P : Plm) (b l r : Nat) : Bool := (List.range l).all fun i => decide (wordOf P r (b + i) = "blocked")
/-- the first of the ticks ahead of n in all of which the robot is blocked -/
def backM (P : Plm) (r : Nat) : Nat → Nat
  | 0 => 0
  | n + 1 => if wordOf P r n = "blocked" then backM P r n else n + 1
def firstM (P : Plm) (b l r : Nat) : Option Nat := if stuckC P b l r then some (backM P r b) else none
def stuckL (P : Plm) (b l : Nat) : List Nat := [0, 1].filter fun r => stuckC P b l r
/-- the first tick from which on both are blocked -/
def lockM (P : Plm) (b l : Nat) : Option Nat := match firstM P b l 0, firstM P b l 1 with
  | some i, some j => some (max i j)
  | _, _ => none
theorem backM_le {P : Plm} {r : Nat} : ∀ n, backM P r n ≤ n
  | 0 => Nat.le_refl _
  | n + 1 => by
    show (if _ then _ else _) ≤ _
    split
    · have := backM_le (P := P) (r := r) n
      omega
    · exact Nat.le_refl _
theorem backM_from {P : Plm} {r : Nat} : ∀ n i, backM P r n ≤ i → i < n → wordOf P r i = "blocked"
  | 0, i, _, h => absurd h (by omega)
  | n + 1, i, h1, h2 => by
    have h1 : (if wordOf P r n = "blocked" then backM P r n else n + 1) ≤ i := h1
    split at h1
    · rename_i q
      by_cases c : i = n
      · rw [c]; exact q
      · exact backM_from n i h1 (by omega)
    · omega
theorem backM_ahead {P : Plm} {r : Nat} : ∀ n, 0 < backM P r n → wordOf P r (backM P r n - 1) ≠ "blocked"
  | 0, h => absurd h (by simp [backM])
  | n + 1, h => by
    have e : backM P r (n + 1) = if wordOf P r n = "blocked" then backM P r n else n + 1 := rfl
    rw [e] at h ⊢
    split
    · rename_i q
      rw [if_pos q] at h
      exact backM_ahead n h
    · rename_i q
      rw [show n + 1 - 1 = n by omega]
      exact q
section
variable {m : Fm} {K : PySem.W.Frag} {Γ : List En} {te ta tb : TE} {t : TA}
/-- a tuple of the program is walked -/
theorem it_tupC {a : Addr} {xs : List V} {φs : List FP} (hc : ∀ H, SqT K H a xs) (hv : ∀ F, Al F xs φs) : IT m Γ (iTup K (tC (.ref a))) φs := ⟨fun F H σ E R k =>
  ⟨a, rfl, ⟨xs, hc H⟩, k (Itt K a) (fun H => SqT K H a xs) (YAt xs) F H XF.refl E (by rw [← al_len (hv F)]; exact walk_tup) (fun F' H' _ _ => hc H') fun i φ x F' H2 H2' hi a b y => by
    obtain ⟨rfl, hx⟩ := y
    obtain ⟨φ', h1, h2⟩ := al_getF (hv F') hx
    rw [hi] at h1
    cases h1
    exact ⟨F', XF.refl, h2, fun _ _ g => g⟩⟩⟩
/-- max of a list of numbers -/
theorem eg_max {ns : List Int} {n : Int} (h : AG m Γ t [.fx (Dd K (.list (ns.map .int)))]) (hn : n ∈ ns) (hm : ∀ y ∈ ns, y ≤ n) : EG m Γ (tCB (rMax K) t) (Dd K (.int n)) := fun F H σ E Q q => h F H σ E _ fun vs F1 H1 x1 E1 p1 => by
  obtain ⟨v, rfl, p⟩ := ags1 p1
  obtain ⟨pa, vs, e, hp, al⟩ := dp_lst p
  subst e
  rw [List.map_map] at al
  have al := al_ints (ys := ns) al
  subst al
  refine ⟨pa, ns, rfl, sq_of (E1.fh _ _ hp), List.length_pos_of_mem hn, fun m' h1 h2 => ?_⟩
  have : m' = n := Int.le_antisymm (hm m' h1) (h2 n hn)
  rw [this]
  exact q _ F1 H1 x1 E1 (Dq.int _)
theorem eg_min {ns : List Int} {n : Int} (h : AG m Γ t [.fx (Dd K (.list (ns.map .int)))]) (hn : n ∈ ns) (hm : ∀ y ∈ ns, n ≤ y) : EG m Γ (tCB (rMin K) t) (Dd K (.int n)) := fun F H σ E Q q => h F H σ E _ fun vs F1 H1 x1 E1 p1 => by
  obtain ⟨v, rfl, p⟩ := ags1 p1
  obtain ⟨pa, vs, e, hp, al⟩ := dp_lst p
  subst e
  rw [List.map_map] at al
  have al := al_ints (ys := ns) al
  subst al
  refine ⟨pa, ns, rfl, sq_of (E1.fh _ _ hp), List.length_pos_of_mem hn, fun m' h1 h2 => ?_⟩
  have : m' = n := Int.le_antisymm (h2 n hn) (hm m' h1)
  rw [this]
  exact q _ F1 H1 x1 E1 (Dq.int _)
theorem eg_max2 {i j : Int} (h : AG m Γ t [.fx (Dd K (.int i)), .fx (Dd K (.int j))]) : EG m Γ (tCB (fun xs H Q => ∃ i j, xs = [V.int i, V.int j] ∧ Q (V.int (if j > i then j else i)) H) t) (Dd K (.int (max i j))) := fun F H σ E Q q => h F H σ E _ fun vs F1 H1 x1 E1 p1 => by
  obtain ⟨v, w, rfl, h1, h2⟩ := ags2 p1
  refine ⟨i, j, by rw [dd_int h1, dd_int h2], ?_⟩
  have e : (if j > i then j else i) = max i j := by
    split <;> omega
  rw [e]
  exact q _ F1 H1 x1 E1 (Dq.int _)
def optV : Option Nat → V
  | none => .non
  | some n => .int (n : Int)
theorem scD_opt (o : Option Nat) : scD (optD o) = some (optV o) := by cases o <;> rfl
end
end SB

set_option maxHeartbeats 4000000
namespace SB
open PySem PySem.Spec PyProof.Rows L2
open TL (tl)
open Evl
variable {P : Program} {w : World} {K : PySem.W.Frag} {mg : Str → Option Value} {base : Heap}


def PhStuck (K : PySem.W.Frag) (C : Addr) (as : List En) (ψ : FP) : Prop := ∃ Pl b l r, Cyc Pl b l ∧ b + l ≤ 20000 ∧ r < 2 ∧ as = [.fx (RunF K C Pl b l), .fx (Dd K (iD r))] ∧ ψ = Dd K (.bool (stuckC Pl b l r))
def PhFirst (K : PySem.W.Frag) (C : Addr) (as : List En) (ψ : FP) : Prop := ∃ Pl b l r, Cyc Pl b l ∧ b + l ≤ 20000 ∧ r < 2 ∧ as = [.fx (RunF K C Pl b l), .fx (Dd K (iD r))] ∧ ψ = Dd K (optD (firstM Pl b l r))
def PhRobots (K : PySem.W.Frag) (as : List En) (ψ : FP) : Prop := ∃ z Pl b l, Txts z Pl ∧ Cyc Pl b l ∧ as = [.fx (Dd K (.str z))] ∧ ψ = Dd K (.list (intsD (stuckL Pl b l)))
def PhLock (K : PySem.W.Frag) (as : List En) (ψ : FP) : Prop := ∃ z Pl b l, Txts z Pl ∧ Cyc Pl b l ∧ as = [.fx (Dd K (.str z))] ∧ ψ = Dd K (optD (lockM Pl b l))
def PhFrom (K : PySem.W.Frag) (as : List En) (ψ : FP) : Prop := ∃ z Pl b l r, Txts z Pl ∧ Cyc Pl b l ∧ r < 2 ∧ as = [.fx (Dd K (.str z)), .fx (Dd K (iD r))] ∧ ψ = Dd K (optD (firstM Pl b l r))
section
variable {m : Fm} {K : PySem.W.Frag} {Γ : List En} {te : TE} {XE : XK} {Pl : Plm} {b l : Nat}
theorem eg_runC {C : Addr} (h : EG m Γ te (PlF K Pl)) (hP : PlanOk Pl) (hR : Repeats Pl 20000) (hc : Cyc Pl b l) : EG m Γ (StX.tMakeR C (spRunInit K C) XE (tCons te tNil)) (RunF K C Pl b l) := eg_le (eg_runP h hP hR) fun {F v} ⟨⟨b', l'⟩, hc', p⟩ => by
  obtain ⟨e1, e2⟩ := hc.uniq hc'
  subst e1 e2
  exact p
theorem robots_al {K : PySem.W.Frag} (F : Hp) : Al F [V.int 0, .int 1] [Dd K (iD 0), Dd K (iD 1)] := .cons (Dq.int 0) (.cons (Dq.int 1) .nil)
end

theorem ok_Run_is_stuck (T : Txt K mg) : FnR P w K mg base (L2.CX P w) 1 (He.ma K (He.ga K "Run") "is_stuck") (spG (PhStuck K (He.ga K "Run"))) := by
  obtain ⟨fd, F⟩ := T.F_Run_is_stuck
  have B : Binds K fd P_Run_is_stuck [] := F.bindsN fun _ _ _ _ _ _ us hl => match us, hl with | [_, _], _ => rfl
  refine fnR_of F B (F.ok sc_Run_is_stuck (fun vs H Q E h => spG_len h fun as ψ hΦ => ?_) (fun cdv A outer s H vs Q E hr h => ?_))
  · obtain ⟨Pl, b, l, r, hc, hbl, hr2, rfl, rfl⟩ := hΦ
    rfl
  · have hu := hu_of hr
    have hu64 := hr.units
    refine ⟨_, (pss_one (ps_ret (pe_callB (cr_all rfl) (by rfl) T.b_all (by decide +kernel) (pa_cons (pe_lc (te := (tOp rEq (tOp (rIxT K) (tVar 2) (tVar 1)) (tC (.str "blocked")))) (own := [("words", 2)]) rfl sc_Run_is_stuck.nd (pi_list (pe_slice sl_list (pe_fld (pv 0) rfl) (po_some (pe_fld (pv 0) rfl)) po_none)) (blkOk_by (own := [("words", 2)]) (N := N_Run_is_stuck) (sc := defScope s_Run_is_stuck) (by decide +kernel)) (fun _ _ _ _ _ => by exact pg_name (i := 2) sc_Run_is_stuck.nd rfl (by first | exact Or.inl rfl | exact Or.inr rfl)) (fun _ _ _ _ _ => by exact pts_nil) (fun _ _ _ _ _ => by exact (pe_cmpR op_eq (pe_ix ix_tup (pv 2) (pv 1) (fun _ _ => rfl)) (pe_gs T.v_BLOCKED) (nomark _)))) pa_nil)))), ?_⟩
    refine spG_body h fun m as ψ hΦ => ?_
    obtain ⟨Pl, b, l, r, hc, hbl, hr2, rfl, rfl⟩ := hΦ
    have hp := hc.pos
    have self_ : ∀ {Γ : List En}, Γ[0]? = some (.fx (RunF K (He.ga K "Run") Pl b l)) → EG m Γ (tVar 0) (RunF K (He.ga K "Run") Pl b l) := fun h => eg_var h
    have hcut : cutD ((List.range (b + l)).map fun i => wordsD (wordsAt Pl i)) (some (b : Int)) none = (List.range l).map fun i => wordsD (wordsAt Pl (b + i)) := by
      unfold cutD
      rw [HT.sIx_none, HT.sIx_nat, List.length_map, List.length_range, Nat.min_eq_left (by omega), List.take_of_length_le (by simp), ← List.map_drop]
      apply List.ext_getElem?
      intro i
      rw [List.getElem?_map, List.getElem?_map, List.getElem?_drop]
      by_cases h : i < l
      · rw [List.getElem?_range (by omega), List.getElem?_range h]
        rfl
      · rw [List.getElem?_eq_none (by simp; omega), List.getElem?_eq_none (by simp; omega)]
        rfl
    have hl := eg_lcN (K := K) (m := m) (n := l) (Γ := pads N_Run_is_stuck.length [.fx (RunF K (He.ga K "Run") Pl b l), .fx (Dd K (iD r))]) (te := tOp rEq (tOp (rIxT K) (tVar 2) (tVar 1)) (tC (.str "blocked"))) (g := gName 2) (vs := [2]) (fun i => .bool (decide (wordOf Pl r (b + i) = "blocked"))) (it_list (K := K) (φs := ((List.range l).map fun i => wordsD (wordsAt Pl (b + i))).map (Dd K)) (eg_le (eg_is (eg_slL (ds := (List.range (b + l)).map fun i => wordsD (wordsAt Pl i)) (eg_words (self_ rfl) T.c_Run T.n_Run_words) (og_int (eg_begin (self_ rfl) T.c_Run T.n_Run_begin)) og_no) (congrArg PyData.list hcut)) dp_lst)) (by rw [List.length_map, List.length_map, List.length_range]) (by omega) (fun i hi R => by
        have : i = 2 := by simpa using hi
        subst this
        intro h
        cases h) fun i φ hi hφ => by
      refine ⟨_, tv_name (by simp), ?_⟩
      have : φ = Dd K (wordsD (wordsAt Pl (b + i))) := by
        rw [List.map_map, List.getElem?_map, List.getElem?_range hi] at hφ
        exact (Option.some.inj hφ).symm
      subst this
      refine eg_eqS (eg_ixT (ds := [.str (wordsAt Pl (b + i)).1, .str (wordsAt Pl (b + i)).2]) (d := .str (wordOf Pl r (b + i))) (i := (r : Int)) (eg_var rfl) (eg_var rfl) (at_nat' ?_)) eg_str
      rcases (show r = 0 ∨ r = 1 by omega) with h | h <;> rw [h] <;> rfl
    refine sg_ret (eg_is (eg_all (K := K) (bs := (List.range l).map fun i => decide (wordOf Pl r (b + i) = "blocked")) (eg_le hl ?_)) ?_)
    · intro F v p
      have p := dp_lst p
      rw [List.map_map] at p
      rw [List.map_map]
      exact p
    · unfold stuckC
      rw [List.all_map]
      rfl





end SB

set_option maxHeartbeats 4000000
namespace SB
open PySem PySem.Spec PyProof.Rows L2
open TL (tl)
open Evl
section
variable {m : Fm} {K : PySem.W.Frag} {Γ : List En} {wi wi1 : TI} {items : List FP} {t1 : TT} {te : TE}
theorem flat_len {n1 : Nat} {ψ : Nat → Nat → Option FP} : ∀ i, ((List.range i).flatMap fun i => (List.range n1).filterMap (ψ i)).length ≤ i * n1
  | 0 => Nat.zero_le _
  | i + 1 => by
    rw [List.range_succ, List.flatMap_append, List.length_append]
    have := flat_len (n1 := n1) (ψ := ψ) i
    have h2 : (List.flatMap (fun i => List.filterMap (ψ i) (List.range n1)) [i]).length ≤ n1 := by
      simp only [List.flatMap_cons, List.flatMap_nil, List.append_nil]
      exact Nat.le_trans (List.length_filterMap_le _ _) (by rw [List.length_range]; exact Nat.le_refl _)
    rw [Nat.add_mul, Nat.one_mul]
    omega
/-- [e for x in xs for y in ys if ..] -/
theorem eo_lc2 {g g1 : TG} {vs vs1 : List Nat} (it : IT m Γ wi items) (hv : ∀ i ∈ vs1, i ∈ vs) (nv : ∀ i ∈ vs, ∀ R, Γ[i]? ≠ some (.oo R)) (n1 : Nat) (ψ : Nat → Nat → Option FP) (hz : items.length * n1 ≤ 100000)
    (hs : ∀ (i : Nat) φ, items[i]? = some φ → ∃ Γ2 items1, TV m (wipeG Γ vs) g φ Γ2 vs ∧ items1.length = n1 ∧ IT m Γ2 wi1 items1 ∧ (∀ i ∈ vs, ∀ R, Γ2[i]? ≠ some (.oo R)) ∧
      ∀ (j : Nat) φ1, items1[j]? = some φ1 → ∃ Γ3, TV m (wipeG Γ2 vs1) g1 φ1 Γ3 vs1 ∧ BG m Γ3 t1 (· = (ψ i j).isSome) ∧ ∀ χ, ψ i j = some χ → EG m Γ3 te χ) :
    EO m Γ (tLc2 wi g tYes wi1 g1 t1 te vs vs1) (OwL ((List.range items.length).flatMap fun i => (List.range n1).filterMap (ψ i))) := fun F H σ E Q q => by
  refine it.run F H σ E _ fun J G Y F1 H1 x E1 W hG hY D hD => ?_
  have acc0 : LcI m F1 σ Γ D [] F1 (upd H1 D (.lst [])) := ⟨Ex.refl F1, E1.mutOut (fresh_F E1 hD) (E1.fresh0 hD) (E1.alone hD), fresh_F E1 hD, E1.fresh0 hD, ⟨[], upd_same, .nil⟩, E1.alone hD⟩
  have MD : m.M ≠ some D := E1.nM (E1.fresh0 hD)
  let acc (i : Nat) : List FP := (List.range i).flatMap fun i => (List.range n1).filterMap (ψ i)
  have accS : ∀ i, acc (i + 1) = acc i ++ (List.range n1).filterMap (ψ i) := fun i => by
    show List.flatMap _ (List.range (i + 1)) = _
    rw [List.range_succ, List.flatMap_append]
    simp only [List.flatMap_cons, List.flatMap_nil, List.append_nil]
    rfl
  have stp : ∀ (i j : Nat), (List.range (j + 1)).filterMap (ψ i) = (List.range j).filterMap (ψ i) ++ (ψ i j).toList := fun i j => by
    rw [List.range_succ, List.filterMap_append]
    congr 1
  have lens : ∀ (i j : Nat), ((List.range j).filterMap (ψ i)).length ≤ j := fun i j => Nat.le_trans (List.length_filterMap_le _ _) (by rw [List.length_range]; exact Nat.le_refl _)
  let Pv (i : Nat) (H' : Hp) : Prop := ∃ F', LcI m F1 σ Γ D (acc i) F' H' ∧ XF m F1 H1 F' H'
  refine ⟨fun i k H => k = items.length - i ∧ i ≤ items.length ∧ Pv i H, ⟨items.length, by simp, Nat.zero_le _, F1, acc0, XF.refl.grow (Ex.new hD)⟩, ?_⟩
  rintro i k H2 ⟨rfl, hi, p⟩
  obtain ⟨F', a, xm⟩ := id p
  have hGi : G H2 := hG F' H2 a.x a.e.fh
  by_cases hlt : i < items.length
  · refine .inr ⟨W.goes i H2 hlt hGi, Pv (i + 1), fun H' p' => ⟨items.length - (i + 1), by omega, rfl, hlt, p'⟩, fun v H2' y => ?_⟩
    have y := W.yields i H2 v H2' hlt hGi y
    have hφ := List.getElem?_eq_getElem hlt
    obtain ⟨F'', x2, pv, ge⟩ := hY i _ v F' H2 H2' hφ a.x a.e.fh y
    obtain ⟨Γ2, items1, ht, hn1, it1, nv2, hs1⟩ := hs i _ hφ
    have E0 := ge σ Γ a.e
    obtain ⟨ws, hD2, alD⟩ := a.d
    refine ht.run F'' H2' _ (E0.wipe vs) v pv _ fun σ2 E2 o2 l2 => ?_
    have ow : ∀ i, i ∉ vs → σ2[i]? = σ[i]? := fun i hi => (o2 i hi).trans (wipe_out hi)
    have oG : ∀ i, i ∉ vs → Γ2[i]? = Γ[i]? := fun i hi => (ht.out i hi).trans (wipeG_out hi)
    refine ⟨wipe_eq (l2.trans (wipe_length σ vs)) ow, ?_⟩
    unfold tYes
    simp only [if_true]
    -- the inner source
    refine it1.run F'' H2' σ2 E2 _ fun J1 G1 Y1 F5 H5 x5 E5 W1 hG1 hY1 => ?_
    have x25 := x2.trans x5
    have nf5 : F5 D = none := by
      cases w : F5 D with
      | none => rfl
      | some u =>
        have := x25.n D u w a.nf
        rw [hD2] at this
        cases this
    have al2 : ∀ (j : Nat) S, Γ2[j]? = some (.oo S) → σ2[j]? ≠ some (some (.ref D)) := fun j S hj => by
      by_cases c : j ∈ vs
      · exact absurd hj (nv2 j c S)
      · rw [ow j c]
        exact a.al j S (by rw [← oG j c]; exact hj)
    have b0 : LcI m F5 σ2 Γ2 D (acc i ++ (List.range 0).filterMap (ψ i)) F5 H5 := ⟨Ex.refl F5, E5, nf5, a.n0, ⟨ws, x25.k D _ MD hD2, by rw [show (List.range 0).filterMap (ψ i) = [] from rfl, List.append_nil]; exact alD.mono x25.f⟩, al2⟩
    let Pw (j : Nat) (H' : Hp) : Prop := ∃ F7, LcI m F5 σ2 Γ2 D (acc i ++ (List.range j).filterMap (ψ i)) F7 H' ∧ XF m F1 H1 F7 H'
    refine ⟨fun j k H => k = n1 - j ∧ j ≤ n1 ∧ Pw j H, ⟨n1, by simp, Nat.zero_le _, F5, b0, xm.trans x25⟩, ?_⟩
    rintro j k2 H6 ⟨rfl, hj, F6, b, xb⟩
    have hGj : G1 H6 := hG1 F6 H6 b.x b.e.fh
    by_cases hjl : j < n1
    · have hjl' : j < items1.length := by omega
      refine .inr ⟨W1.goes j H6 hjl' hGj, Pw (j + 1), fun H' p' => ⟨n1 - (j + 1), by omega, rfl, hjl, p'⟩, fun v1 H6' y1 => ?_⟩
      have y1 := W1.yields j H6 v1 H6' hjl' hGj y1
      have hφ1 := List.getElem?_eq_getElem hjl'
      obtain ⟨F8, x8, pv1, ge1⟩ := hY1 j _ v1 F6 H6 H6' hφ1 b.x b.e.fh y1
      obtain ⟨Γ3, ht1, hB, hE⟩ := hs1 j _ hφ1
      have E8 := ge1 σ2 Γ2 b.e
      obtain ⟨us, hD6, al6⟩ := b.d
      refine ht1.run F8 H6' _ (E8.wipe vs1) v1 pv1 _ fun σ3 E3 o3 l3 => ?_
      have ow3 : ∀ i, i ∉ vs1 → σ3[i]? = σ2[i]? := fun i hi => (o3 i hi).trans (wipe_out hi)
      have oG3 : ∀ i, i ∉ vs1 → Γ3[i]? = Γ2[i]? := fun i hi => (ht1.out i hi).trans (wipeG_out hi)
      refine ⟨wipe_eq (l3.trans (wipe_length σ2 vs1)) ow3, ?_⟩
      have later : ∀ {F9 H9 : Hp}, XF m F8 H6' F9 H9 → GE m F9 H9 σ3 Γ3 → LcI m F5 σ2 Γ2 D (acc i ++ (List.range j).filterMap (ψ i)) F9 H9 ∧ XF m F1 H1 F9 H9 := fun {F9 H9} x9 E9 => by
        have x89 := x8.trans x9
        refine ⟨⟨b.x.trans x89.f, E8.back E9 x9.f ow3 oG3 (fun i hi => nv2 i (hv i hi)), ?_, b.n0, ⟨us, x89.k D _ MD hD6, al6.mono x89.f⟩, b.al⟩, xb.trans x89⟩
        cases w : F9 D with
        | none => rfl
        | some u =>
          have := x89.n D u w b.nf
          rw [hD6] at this
          cases this
      refine hB F8 H6' σ3 E3 _ fun c F9 H9 x9 E9 hb => ?_
      have hb : c = (ψ i j).isSome := hb
      cases hψ : ψ i j with
      | none =>
        rw [hψ] at hb
        subst hb
        have eqn := stp i j
        rw [hψ, show (none : Option FP).toList = [] from rfl, List.append_nil] at eqn
        show ∃ F7, LcI m F5 σ2 Γ2 D (acc i ++ (List.range (j + 1)).filterMap (ψ i)) F7 H9 ∧ XF m F1 H1 F7 H9
        rw [eqn]
        obtain ⟨l1, l2⟩ := later x9 E9
        exact ⟨F9, l1, l2⟩
      | some χ =>
        rw [hψ] at hb
        subst hb
        have eqn := stp i j
        rw [hψ, show (some χ : Option FP).toList = [χ] from rfl] at eqn
        refine hE χ hψ F9 H9 σ3 E9 _ fun v4 F4 H4 x4 E4 p4 => ?_
        obtain ⟨l1, l2⟩ := later (x9.trans x4) E4
        obtain ⟨us, h1, h2⟩ := l1.d
        have fl := flat_len (n1 := n1) (ψ := ψ) i
        refine ⟨us, h1, sz_lt ?_, F4, ?_, ?_⟩
        · rw [al_len h2, List.length_append]
          have := lens i j
          have h3 : i * n1 + n1 ≤ items.length * n1 := by
            have := Nat.mul_le_mul_right n1 (show i + 1 ≤ items.length by omega)
            rw [Nat.add_mul, Nat.one_mul] at this
            exact this
          show ((List.range i).flatMap fun i => (List.range n1).filterMap (ψ i)).length + _ < _
          omega
        · rw [eqn, ← List.append_assoc]
          exact ⟨l1.x, l1.e.mutOut l1.nf l1.n0 l1.al, l1.nf, l1.n0, ⟨_, upd_same, al_app h2 (.cons p4 .nil)⟩, l1.al⟩
        · refine ⟨l2.f, fun p o n h => ?_, l2.n, fun p o h => ?_⟩
          · rw [upd_ne (ne_of_none h hD)]
            exact l2.k p o n h
          · rw [upd_ne (ne_of_none h hD)]
            exact l2.t p o h
    · have e : j = n1 := by omega
      subst e
      refine .inl ⟨by rw [← hn1]; exact W1.stops H6 hGj, F6, ?_, xb⟩
      rw [accS]
      obtain ⟨us, hD6, al6⟩ := b.d
      exact ⟨a.x.trans (x25.f.trans b.x), E0.back b.e (x5.f.trans b.x) ow oG nv, b.nf, a.n0, ⟨us, hD6, al6⟩, a.al⟩
  · have e : i = items.length := by omega
    subst e
    obtain ⟨us, h1, h2⟩ := a.d
    exact .inl ⟨W.stops H2 hGi, q D _ F' H2 (x.trans xm) a.e a.nf (back_none x hD) h1 a.n0 ⟨us, rfl, h2⟩ a.al⟩
end
end SB

set_option maxHeartbeats 4000000
namespace SB
open PySem PySem.Spec PyProof.Rows L2
open TL (tl)
open Evl
/-! ### dicts of one's own whose keys are numbers: their keys alone -/
def keysI (ks : List Nat) (kvs : List (Key × V)) : Prop := kvs.length ≤ ks.length ∧ ∀ i : Nat, (valV kvs (Sum.inl (i : Int))).isSome = decide (i ∈ ks)
def DkO (ks : List Nat) : OP := ⟨fun _ _ o => ∃ kvs, o = .dK kvs ∧ keysI ks kvs, fun _ h => h⟩
def DkF (ks : List Nat) : FP := ⟨fun F v => ∃ p kvs, v = .ref p ∧ F p = some (.dK kvs) ∧ keysI ks kvs, fun e ⟨p, kvs, h1, h2, h3⟩ => ⟨p, kvs, h1, e _ _ h2, h3⟩⟩
theorem keysI_put {ks : List Nat} {kvs : List (Key × V)} (h : keysI ks kvs) (n : Nat) (v : V) : keysI (ks ++ [n]) (putK kvs (Sum.inl (n : Int)) v) := by
  refine ⟨Nat.le_trans (length_putK _ _ _) ?_, fun i => ?_⟩
  · rw [List.length_append]
    have := h.1
    simp
    omega
  · rw [valV_put]
    by_cases c : i = n
    · subst c
      rw [if_pos rfl]
      simp
    · have : ¬ ((Sum.inl (i : Int) : Key) = Sum.inl (n : Int)) := fun e => c (by injection e with e; omega)
      rw [if_neg this, h.2 i]
      simp [c]
section
variable {m : Fm} {K : PySem.W.Frag} {Γ Γ' : List En} {ta tb te : TE} {t : TA} {φ ψ : FP} {ks : List Nat} {i : Nat} {tz : TS} {po : Po}
theorem eg_neS {a b : Str} (ha : EG m Γ ta (Dd K (.str a))) (hb : EG m Γ tb (Dd K (.str b))) : EG m Γ (tOp rNe ta tb) (Dd K (.bool (!decide (a = b)))) := by
  have h := eg_ne ha hb rfl rfl rfl
  have e : decide (V.str a = V.str b) = decide (a = b) := by
    apply decide_eq_decide.mpr
    exact ⟨fun h => V.str.inj h, fun h => by rw [h]⟩
  rw [e] at h
  exact h
theorem eo_dnew : EO m Γ tDNewK (DkO []) := fun F H σ E Q q => fun p hp => eo_new (R := DkO []) (o := .dK []) E hp (Ex.new hp) upd_same ⟨[], rfl, Nat.le_refl _, fun i => by simp [valV]⟩ q
theorem to_dset {n : Nat} (hi : Γ[i]? = some (.oo (DkO ks))) (hb : EG m Γ tb (Dd K (.int (n : Int)))) (hl : ks.length < 100000) : TGo m Γ (gSub (tVar i) tb rSetD) φ (Γ.set i (.oo (DkO (ks ++ [n])))) := fun F H σ E v pv Q q => by
  obtain ⟨w0, hw, p, o, e, nf, n0, ho, kvs, eo, hk⟩ := E.slot i _ hi
  subst e
  refine ⟨_, hw, hb F H σ E _ fun y F1 H1 x1 E1 p1 => ?_⟩
  obtain ⟨w', hw', p', o', e', nf', _, ho', kvs', eo', hk'⟩ := E1.slot i _ hi
  rw [hw] at hw'
  cases hw'
  cases e'
  subst eo'
  have ey : y = kV (Sum.inl (n : Int)) := dd_int p1
  subst ey
  show ∃ (a : Addr) (H' : Hp), V.ref p = .ref a ∧ DPut H1 a (kV (Sum.inl (n : Int))) v H' ∧ Q σ H'
  refine ⟨p, _, rfl, DPut.k ho' (sz_lt (Nat.lt_of_le_of_lt hk'.1 hl)), ?_⟩
  exact q σ F1 _ x1.f (E1.mut hi hw ⟨_, rfl, keysI_put hk' n v⟩)
theorem eg_dnin {n : Nat} (ha : EG m Γ ta (Dd K (.int (n : Int)))) (hb : EG m Γ tb (DkF ks)) : EG m Γ (tDNotIn ta tb) (Dd K (.bool (!decide (n ∈ ks)))) := fun F H σ E Q q =>
  ha F H σ E _ fun y F1 H1 x1 E1 p1 => hb F1 H1 σ E1 _ fun x F2 H2 x2 E2 ⟨p, kvs, e, hp, hk⟩ => by
    have ey : y = kV (Sum.inl (n : Int)) := dd_int p1
    subst ey e
    refine ⟨p, _, rfl, DGet.k (E2.fh _ _ hp), ?_⟩
    rw [hk.2 n]
    exact q _ F2 H2 (x1.trans x2) E2 (Dq.bl _)
/-- what is owned is frozen -/
theorem sg_frzO {R : OP} {ts : TS} (hi : Γ[i]? = some (.oo R)) (hf : ∀ F p o, R.r F p o → φ.p (upd F p o) (.ref p)) (k : SG m (Γ.set i (.fx φ)) ts po) : SG m Γ ts po := fun F H σ E D q => by
  obtain ⟨w, hw, p, o, e, nf, n0, ho, hr⟩ := E.slot i _ hi
  subst e
  have E1 : GE m F H σ (Γ.set i .un) := E.weak (fun _ _ _ _ => trivial) (fun R e => by cases e)
  obtain ⟨E2, x2⟩ := E1.frz nf ho n0 fun j S hS hj => by
    rcases getSet hS with ⟨_, e, _⟩ | ⟨n, hS⟩
    · cases e
    · exact E.sep i j p _ S n hi hS hw hj
  have E3 : GE m (upd F p o) H (σ.set i (some (.ref p))) ((Γ.set i .un).set i (.fx φ)) := E2.setF (hf F p o hr)
  have es : σ.set i (some (.ref p)) = σ := by
    apply List.ext_getElem?
    intro j
    by_cases c : i = j
    · subst c
      rw [hw, List.getElem?_set_self (List.getElem?_eq_some_iff.mp hw).1]
    · rw [List.getElem?_set_ne c]
  rw [es, List.set_set] at E3
  exact k _ H σ E3 D (q.mono x2)
theorem sg_frzK {ts : TS} (hi : Γ[i]? = some (.oo (DkO ks))) (k : SG m (Γ.set i (.fx (DkF ks))) ts po) : SG m Γ ts po :=
  sg_frzO (φ := DkF ks) hi (fun F p o ⟨kvs, e, h⟩ => ⟨p, kvs, rfl, by rw [e]; exact upd_same, h⟩) k
/-! ### sums, repeated lists -/
theorem eg_sum {ns : List Int} (h : AG m Γ t [.fx (Dd K (.list (ns.map .int)))]) : EG m Γ (tCB (rSum K) t) (Dd K (.int ns.sum)) := fun F H σ E Q q => h F H σ E _ fun vs F1 H1 x1 E1 p1 => by
  obtain ⟨v, rfl, p⟩ := ags1 p1
  obtain ⟨pa, vs, e, hp, al⟩ := dp_lst p
  subst e
  rw [List.map_map] at al
  have al := al_ints (ys := ns) al
  subst al
  exact ⟨pa, ns, rfl, sq_of (E1.fh _ _ hp), q _ F1 H1 x1 E1 (Dq.int _)⟩
theorem eg_intB {b : Bool} (h : AG m Γ t [.fx (Dd K (.bool b))]) : EG m Γ (tCB (fun xs H Q => (∃ i, xs = [V.int i] ∧ Q (V.int i) H) ∨ ∃ k, xs = [V.bl k] ∧ Q (V.int (if k then 1 else 0)) H) t) (Dd K (.int (if b then 1 else 0))) := fun F H σ E Q q => h F H σ E _ fun vs F1 H1 x1 E1 p1 => by
  obtain ⟨v, rfl, p⟩ := ags1 p1
  exact .inr ⟨b, by rw [dd_bl p], q _ F1 H1 x1 E1 (Dq.int _)⟩
theorem al_rep {F : Hp} {vs : List V} {φs : List FP} (h : Al F vs φs) : ∀ k : Nat, Al F (List.replicate k vs).flatten (List.replicate k φs).flatten
  | 0 => .nil
  | k + 1 => by
    rw [List.replicate_succ, List.flatten_cons, List.replicate_succ, List.flatten_cons]
    exact al_app h (al_rep h k)
theorem rep_len {α : Type} (l : List α) : ∀ k : Nat, ((List.replicate k l).flatten).length = l.length * k
  | 0 => rfl
  | k + 1 => by
    rw [List.replicate_succ, List.flatten_cons, List.length_append, rep_len l k, Nat.mul_succ]
    omega
theorem eo_rep {φs : List FP} {k : Nat} (ha : EG m Γ ta (LstF K φs)) (hb : EG m Γ tb (Dd K (.int (k : Int)))) (hk : k ≤ 100000) (hl : φs.length * k ≤ 100000) : EO m Γ (tOp rRep ta tb) (OwL (List.replicate k φs).flatten) := fun F H σ E Q q =>
  ha F H σ E _ fun x F1 H1 x1 E1 ⟨p, vs, e, hs, al⟩ => hb F1 H1 σ E1 _ fun y F2 H2 x2 E2 p2 => by
    subst e
    refine ⟨p, (k : Int), vs, rfl, dd_int p2, (x2.f.trans E2.fh) _ _ hs, by omega, by omega, ?_, fun b hb => ?_⟩
    · rw [Int.toNat_natCast, al_len al]
      exact sz_of hl
    · rw [Int.toNat_natCast]
      have xx := x1.trans x2
      exact eo_new (R := OwL (List.replicate k φs).flatten) E2 hb (Ex.new hb) upd_same ⟨_, rfl, al_rep (al.mono x2.f) k⟩ fun p o F3 H3 x3 E3 nf hp ho n0 hr na => q p o F3 H3 (xx.trans x3) E3 nf (back_none xx hp) ho n0 hr na
theorem it_zipA {ta : TA} {φs ψs : List FP} (h : AG m Γ ta [.fx (LstF K φs), .fx (LstF K ψs)]) : IT m Γ (RZ.iZipA K ta) (zipF K φs ψs) := ⟨fun F H σ E R k => h F H σ E _ fun vs F1 H1 x E1 p => by
  obtain ⟨v, w, rfl, ⟨a, ws, e, hs, al⟩, ⟨a2, ws2, e2, hs2, al2⟩⟩ := ags2 p
  subst e e2
  refine ⟨a, a2, ws, ws2, rfl, .inl ⟨sq_of (E1.fh _ _ hs), sq_of (E1.fh _ _ hs2), k (Itz K a a2) (fun H => SqL K H a ws ∧ SqL K H a2 ws2) (YPair (fun i => ws[i]?) (fun i => ws2[i]?)) F1 H1 x E1 (walk_zip (by unfold zipF; rw [List.length_zipWith, al_len al, al_len al2])) (fun F' H' a b => ⟨sq_of ((a.trans b) _ _ hs), sq_of ((a.trans b) _ _ hs2)⟩) fun i χ x F' H2 H2' hi a b y => ?_⟩⟩
  obtain ⟨T, y, z, e1, e2, e3, e4, e5⟩ := y
  obtain ⟨φ, ψ, hφ, hψ, rfl⟩ := zipF_of hi
  obtain ⟨φ', h1, h2⟩ := al_getF al e4
  rw [hφ] at h1
  cases h1
  obtain ⟨ψ', h3, h4⟩ := al_getF al2 e5
  rw [hψ] at h3
  cases h3
  exact pair_new b (φ.mono a h2) (ψ.mono a h4) e1 e2 e3⟩
end
/-! ### what a robot uses -/
def usedL (P : Plm) (r : Nat) : Nat → List Nat
  | 0 => []
  | n + 1 => if wordOf P r n = "blocked" then usedL P r n else usedL P r n ++ [atN (sitAt P n).ns r]
theorem used_len {P : Plm} {r : Nat} : ∀ n, (usedL P r n).length ≤ n
  | 0 => Nat.le_refl _
  | n + 1 => by
    have := used_len (P := P) (r := r) n
    show (if _ then _ else _ : List Nat).length ≤ _
    split
    · omega
    · rw [List.length_append]
      simp
      omega
def unusedL (P : Plm) (r n : Nat) : List Nat := (List.range (lns P r).length).filter fun k => !decide (k ∈ usedL P r n)
end SB

set_option maxHeartbeats 4000000
namespace SB
open PySem PySem.Spec PyProof.Rows L2
open TL (tl)
open Evl
/-! ### both blocked -/
theorem act_blocked {P : Plm} (hP : PlanOk P) {S : Sit} (h : SitOk P S) {r : Nat} (hr : r < 2) (hw : (actM P S r).1 = "blocked") : (actM P S r).2 = S := by
  unfold actM at hw ⊢
  split
  · rfl
  · rename_i n
    exfalso
    rw [if_neg n] at hw
    have hw : (stepAt P S r).1 = "blocked" := hw
    have hm := (hP.ls r).cmd _ (step_mem h hr)
    rw [hw] at hm
    revert hm
    decide +kernel
theorem both_same {P : Plm} (hP : PlanOk P) {n : Nat} (h0 : wordOf P 0 n = "blocked") (h1 : wordOf P 1 n = "blocked") : sitAt P (n + 1) = sitAt P n := by
  have hS := sitAt_ok hP n
  have h0 : (actM P (sitAt P n) 0).1 = "blocked" := h0
  have h1 : (actM P (actM P (sitAt P n) 0).2 1).1 = "blocked" := h1
  have e0 := act_blocked hP hS (by omega) h0
  have e1 := act_blocked hP (act_ok hP hS (r := 0) (by omega)) (by omega) h1
  show (actM P (actM P (sitAt P n) 0).2 1).2 = sitAt P n
  rw [e1, e0]
theorem stuck_at {P : Plm} {b l r : Nat} (hc : Cyc P b l) (h : stuckC P b l r = true) : wordOf P r b = "blocked" := by
  unfold stuckC at h
  rw [List.all_eq_true] at h
  have := of_decide_eq_true (h 0 (List.mem_range.mpr hc.pos))
  simpa using this
theorem lock_law {P : Plm} (hP : PlanOk P) {b l : Nat} (hc : Cyc P b l) : lockM P b l = if wordsAt P b = (("blocked" : Str), ("blocked" : Str)) then some b else none := by
  by_cases h : wordsAt P b = (("blocked" : Str), ("blocked" : Str))
  · rw [if_pos h]
    have h0 : wordOf P 0 b = "blocked" := congrArg Prod.fst h
    have h1 : wordOf P 1 b = "blocked" := congrArg Prod.snd h
    have hl : l = 1 := by
      have hp := hc.pos
      by_cases c : l = 1
      · exact c
      · exact absurd (both_same hP h0 h1).symm (hc.new b (b + 1) (by omega) (by omega))
    subst hl
    have s : ∀ r, wordOf P r b = "blocked" → stuckC P b 1 r = true := fun r e => by
      unfold stuckC
      simp [List.range_succ, e]
    have f : ∀ r, wordOf P r b = "blocked" → firstM P b 1 r = some (backM P r b) := fun r e => by
      unfold firstM
      rw [s r e, if_pos rfl]
    unfold lockM
    rw [f 0 h0, f 1 h1]
    show some (max (backM P 0 b) (backM P 1 b)) = some b
    congr 1
    have g0 := backM_le (P := P) (r := 0) b
    have g1 := backM_le (P := P) (r := 1) b
    cases b with
    | zero => omega
    | succ n =>
      have nb : ¬ (wordOf P 0 n = "blocked" ∧ wordOf P 1 n = "blocked") := fun ⟨a, b⟩ => absurd (both_same hP a b).symm (hc.new n (n + 1) (by omega) (by omega))
      have st : ∀ r, wordOf P r n ≠ "blocked" → backM P r (n + 1) = n + 1 := fun r e => if_neg e
      by_cases c : wordOf P 0 n = "blocked"
      · have := st 1 fun e => nb ⟨c, e⟩
        omega
      · have := st 0 c
        omega
  · rw [if_neg h]
    have : stuckC P b l 0 = false ∨ stuckC P b l 1 = false := by
      by_cases c : stuckC P b l 0 = true
      · right
        cases c2 : stuckC P b l 1 with
        | false => rfl
        | true =>
          exfalso
          have e0 := stuck_at hc c
          have e1 := stuck_at hc c2
          exact h (Prod.ext e0 e1)
      · left
        simpa using c
    unfold lockM firstM
    rcases this with e | e
    · rw [e]
      rfl
    · rw [e]
      cases stuckC P b l 0 <;> rfl
/-! ### the loop that looks for the first stuck tick -/
def startM (P : Plm) (b l r i : Nat) : Option Nat := if stuckC P b l r then (if i = 0 then none else some (max (backM P r b) (b + 1 - i))) else none
def startC (o : Option Nat) (k : Nat) : Bool := match o with
  | none => true
  | some j => decide (j = k)
def condM (P : Plm) (b l r i : Nat) : Bool := stuckC P b l r && (startC (startM P b l r i) (b - i + 1) && decide (wordOf P r (b - i) = "blocked"))
theorem start_step {P : Plm} {b l r i : Nat} (hc : Cyc P b l) (hi : i ≤ b) : startM P b l r (i + 1) = if condM P b l r i = true then some (b - i) else startM P b l r i := by
  cases hs : stuckC P b l r with
  | false =>
    unfold condM startM
    rw [hs]
    rfl
  | true =>
    have hw := stuck_at hc hs
    have hB := backM_le (P := P) (r := r) b
    by_cases h0 : i = 0
    · subst h0
      have c : condM P b l r 0 = true := by
        unfold condM startM startC
        rw [hs]
        simp [hw]
      rw [if_pos c]
      unfold startM
      rw [hs]
      simp
      omega
    · have s : ∀ j, j ≠ 0 → startM P b l r j = some (max (backM P r b) (b + 1 - j)) := fun j hj => by
        unfold startM
        rw [hs, if_pos rfl, if_neg hj]
      have hk : b + 1 - i = (b - i) + 1 := by omega
      have hk2 : b + 1 - (i + 1) = b - i := by omega
      have ec : condM P b l r i = (decide (max (backM P r b) (b - i + 1) = b - i + 1) && decide (wordOf P r (b - i) = "blocked")) := by
        unfold condM
        rw [hs, s i h0, hk]
        rfl
      rw [ec, s i h0, s (i + 1) (by omega), hk, hk2]
      generalize hkk : b - i = k
      have hkb : k < b := by omega
      by_cases c1 : backM P r b ≤ k
      · have := backM_from (P := P) (r := r) b k c1 hkb
        rw [if_pos (by rw [this, Bool.and_eq_true_iff]; exact ⟨decide_eq_true (by omega), decide_eq_true rfl⟩)]
        congr 1
        omega
      · have : ¬ ((decide (max (backM P r b) (k + 1) = k + 1) && decide (wordOf P r k = "blocked")) = true) := by
          rw [Bool.and_eq_true_iff]
          rintro ⟨a, b'⟩
          have a := of_decide_eq_true a
          have b' := of_decide_eq_true b'
          have : backM P r b = k + 1 := by omega
          have g := backM_ahead (P := P) (r := r) b (by omega)
          rw [this] at g
          exact g b'
        rw [if_neg this]
        congr 1
        omega
theorem start_end {P : Plm} {b l r : Nat} : startM P b l r (b + 1) = firstM P b l r := by
  unfold startM firstM
  split
  · rw [if_neg (by omega), show b + 1 - (b + 1) = 0 by omega, Nat.max_eq_left (Nat.zero_le _)]
  · rfl
/-! ### sums of ones -/
def onesI (P : Plm) (r : Nat) (w : Str) (i : Nat) : Int := if wordOf P r i = w then 1 else 0
theorem ones_cnt {f : Nat → Str} {w : Str} : ∀ n, ((List.range n).map fun i => if f i = w then (1 : Int) else 0).sum = ((cnt f w n : Nat) : Int)
  | 0 => rfl
  | n + 1 => by
    have ih := ones_cnt (f := f) (w := w) n
    unfold cnt at ih ⊢
    rw [List.range_succ, List.map_append, List.map_append, List.sum_append, List.count_append, ih]
    by_cases c : f n = w
    · subst c
      simp
    · simp [c]
theorem cutHi {ds : List PyData} {n : Nat} (h : n ≤ ds.length) : cutD ds none (some (n : Int)) = ds.take n := by
  unfold cutD
  rw [HT.sIx_none, HT.sIx_nat, Nat.min_eq_left h, Nat.sub_zero, List.drop_zero]
theorem cutLo {ds : List PyData} {n : Nat} (h : n ≤ ds.length) : cutD ds (some (n : Int)) none = ds.drop n := by
  unfold cutD
  rw [HT.sIx_none, HT.sIx_nat, Nat.min_eq_left h, List.take_of_length_le (by simp)]
theorem rangeT {α : Type} (f : Nat → α) {n k : Nat} (h : k ≤ n) : ((List.range n).map f).take k = (List.range k).map f := by
  rw [← List.map_take, List.take_range, Nat.min_eq_left h]
theorem rangeD {α : Type} (f : Nat → α) (b l : Nat) : ((List.range (b + l)).map f).drop b = (List.range l).map fun i => f (b + i) := by
  rw [List.range_add, List.map_append, List.drop_left' (by simp), List.map_map]
  rfl
theorem inV_nats {n : Nat} : ∀ (l : List Nat), inV (.int (n : Int)) (l.map fun (k : Nat) => V.int (k : Int)) = decide (n ∈ l)
  | [] => rfl
  | k :: l => by
    have ih := inV_nats (n := n) l
    unfold inV at ih ⊢
    rw [List.map_cons, List.any_cons, ih]
    have e : eqV (.int (k : Int)) (.int (n : Int)) = decide (n = k) := by
      by_cases c : n = k
      · subst c
        simp [eqV]
      · have : ¬ ((k : Int) = (n : Int)) := by omega
        simp [eqV, c, this]
    rw [e]
    by_cases c : n = k
    · simp [c]
    · simp [c]
section
variable {m : Fm} {K : PySem.W.Frag} {Γ Γ' : List En} {ta tb te : TE} {t : TT} {φ ψ : FP} {g : TG} {wi : TI} {items : List FP} {tA : TA}
theorem eg_inN {neg : Bool} {n : Nat} {l : List Nat} (ha : EG m Γ ta (Dd K (.int (n : Int)))) (hb : EG m Γ tb (Dd K (.list (intsD l)))) : EG m Γ (tOp (rIn K neg) ta tb) (Dd K (.bool (if neg then !decide (n ∈ l) else decide (n ∈ l)))) := by
  have h := eg_inF (neg := neg) (xs := l.map fun (k : Nat) => V.int (k : Int)) ha hb rfl (by unfold intsD; rw [List.map_map, List.map_map]; rfl) rfl (by rw [List.all_map]; exact List.all_eq_true.mpr fun _ _ => rfl)
  rw [inV_nats] at h
  exact h
theorem eo_lcF {vs : List Nat} {n : Nat} (p : Nat → Bool) (f : Nat → PyData) (it : IT m Γ wi items) (hn : items.length = n) (hz : n ≤ 100000) (nv : ∀ i ∈ vs, ∀ R, Γ[i]? ≠ some (.oo R))
    (hs : ∀ (i : Nat) φ, i < n → items[i]? = some φ → ∃ Γ2, TV m (wipeG Γ vs) g φ Γ2 vs ∧ BG m Γ2 t (· = p i) ∧ (p i = true → EG m Γ2 te (Dd K (f i)))) : EO m Γ (tLc wi g t te vs) (OwL ((((List.range n).filter p).map f).map (Dd K))) := by
  subst hn
  have h := eo_lc (te := te) (t := t) (g := g) it hz nv (fun i => if p i = true then some (Dd K (f i)) else none) fun i φ hi => by
    obtain ⟨Γ2, h1, h2, h3⟩ := hs i φ (List.getElem?_eq_some_iff.mp hi).1 hi
    refine ⟨Γ2, h1, bg_is h2 (by cases p i <;> rfl), fun χ e => ?_⟩
    cases q : p i with
    | true =>
      rw [q, if_pos rfl] at e
      cases e
      exact h3 q
    | false =>
      rw [q, if_neg (by decide)] at e
      cases e
  rw [List.map_map]
  have e : ∀ l : List Nat, l.filterMap (fun i => if p i = true then some (Dd K (f i)) else none) = (l.filter p).map (Dd K ∘ f) := fun l => by
    induction l with
    | nil => rfl
    | cons a r ih =>
      cases q : p a with
      | true => simp [q, ih]
      | false => simp [q, ih]
  rw [e] at h
  exact h
/-- range(b, -1, -1) -/
theorem it_rngD {ta : TA} {b : Nat} (h : AG m Γ ta [.fx (Dd K (iD b)), .fx (Dd K (.int (-1))), .fx (Dd K (.int (-1)))]) (hb : b ≤ 1000000) : IT m Γ (iRng3 ta) ((List.range (b + 1)).map fun (i : Nat) => Dd K (iD (b - i))) := ⟨fun F H σ E R k => h F H σ E _ fun vs F1 H1 x E1 p => by
  obtain ⟨v1, v2, v3, rfl, p1, p2, p3⟩ := ags3 p
  have rg := RgC.neg (i := (b : Int)) (j := -1) (by omega) (by omega) (by decide) (by decide)
  rw [show ((b : Int) - (-1)).toNat = b + 1 by omega] at rg
  refine ⟨(b : Int), -1, -1, b + 1, by rw [dd_int (i := (b : Int)) p1, dd_int p2, dd_int p3], rg, ?_⟩
  refine k (Itc (b : Int) (-1) (b + 1)) (fun _ => True) (YFn fun i => .int ((b : Int) + (i : Nat) * (-1))) F1 H1 x E1 (by rw [List.length_map, List.length_range]; exact walk_rangeC) (fun _ _ _ _ => trivial) fun i φ x F' H2 H2' hi a1 b' y => ?_
  obtain ⟨rfl, rfl⟩ := y
  rw [List.getElem?_map] at hi
  obtain ⟨j, hj, rfl⟩ := Option.map_eq_some_iff.mp hi
  obtain ⟨hjl, hj2⟩ := List.getElem?_eq_some_iff.mp hj
  have : j = i := by rw [← hj2]; simp
  subst this
  rw [List.length_range] at hjl
  refine ⟨F', XF.refl, ?_, fun _ _ g => g⟩
  have e : ((b : Int) + (j : Nat) * (-1)) = ((b - j : Nat) : Int) := by omega
  show Dq K F' (.int ((b : Int) + (j : Nat) * (-1))) (iD (b - j))
  rw [e]
  exact Dq.int _⟩
end
section
variable {m : Fm} {K : PySem.W.Frag} {Γ : List En} {ta tb : TE}
theorem bg_start {o : Option Nat} {k : Nat} (h : EG m Γ ta (Dd K (optD o))) (ht : EG m Γ tb (Dd K (.int (k : Int)))) : BG m Γ (tOr (tTest (tOp (fun x y H Q => y = V.non ∧ Q (.bl (decide (x = V.non))) H) ta (tC .non))) (tTest (tOp rEq ta tb))) (· = startC o k) := by
  cases o with
  | none => exact bg_orV (a := true) (b := true) (bg_test (eg_isN (d := .none) h eg_non)) fun h => by cases h
  | some j =>
    refine bg_is (bg_orV (a := false) (bg_test (eg_isN (d := iD j) h eg_non)) fun _ => bg_eqI (a := (j : Int)) (b := (k : Int)) h ht) ?_
    show (false || decide ((j : Int) = (k : Int))) = decide (j = k)
    rw [Bool.false_or]
    apply decide_eq_decide.mpr
    omega
end
theorem mem_stuck {P : Plm} {b l r : Nat} (hr : r < 2) : decide (r ∈ stuckL P b l) = stuckC P b l r := by
  unfold stuckL
  cases h : stuckC P b l r with
  | true =>
    apply decide_eq_true
    rw [List.mem_filter]
    refine ⟨?_, h⟩
    rcases (show r = 0 ∨ r = 1 by omega) with e | e <;> simp [e]
  | false =>
    apply decide_eq_false
    rw [List.mem_filter]
    rintro ⟨_, h2⟩
    rw [h] at h2
    cases h2
theorem stuckL_len {P : Plm} {b l : Nat} : (stuckL P b l).length ≤ 2 := List.length_filter_le _ _
theorem start_zero {P : Plm} {b l r : Nat} : startM P b l r 0 = none := by
  unfold startM
  split <;> rfl
theorem cond_eq {P : Plm} {b l r i : Nat} (hr : r < 2) : (decide (r ∈ stuckL P b l) && (startC (startM P b l r i) (b - i + 1) && decide (wordOf P r (b - i) = "blocked"))) = condM P b l r i := by
  unfold condM
  rw [mem_stuck hr]
theorem used_step {P : Plm} {r i : Nat} : usedL P r (i + 1) = usedL P r i ++ (List.replicate (if wordOf P r i = "blocked" then 0 else 1) [atN (sitAt P i).ns r]).flatten := by
  show (if _ then _ else _) = _
  split
  · simp
  · simp
/-! ### lists of days are data that may be compared -/
theorem lay_all {ds : List PyData} (h : ∀ d ∈ ds, d.canLay0 = true) : PyData.canLayAll0 ds = true := by
  induction ds with
  | nil => simp [PyData.canLayAll0]
  | cons d ds ih => simp [PyData.canLayAll0, h d (by simp), ih fun e he => h e (by simp [he])]
theorem dep_all {ds : List PyData} {n : Nat} (h : ∀ d ∈ ds, d.depth ≤ n) : PyData.depthAll ds ≤ n := by
  induction ds with
  | nil => simp [PyData.depthAll]
  | cons d ds ih =>
    have h1 := h d (by simp)
    have h2 := ih fun e he => h e (by simp [he])
    simp [PyData.depthAll]
    omega
theorem flat_list {ds : List PyData} (h : ∀ d ∈ ds, d.canLay0 = true ∧ d.depth = 0) : (PyData.list ds).canLay0 = true ∧ (PyData.list ds).depth ≤ 1 := by
  refine ⟨?_, ?_⟩
  · simp only [PyData.canLay0]
    exact lay_all fun d hd => (h d hd).1
  · simp only [PyData.depth]
    have := dep_all (n := 0) fun d hd => Nat.le_of_eq (h d hd).2
    omega
theorem ints_flat (l : List Nat) : (PyData.list (intsD l)).canLay0 = true ∧ (PyData.list (intsD l)).depth ≤ 1 := flat_list fun d hd => by
  obtain ⟨n, _, rfl⟩ := List.mem_map.mp hd
  exact ⟨by simp [iD, PyData.canLay0], by simp [iD, PyData.depth]⟩
theorem bools_flat (l : List Bool) : (PyData.list (boolsD l)).canLay0 = true ∧ (PyData.list (boolsD l)).depth ≤ 1 := flat_list fun d hd => by
  obtain ⟨n, _, rfl⟩ := List.mem_map.mp hd
  exact ⟨by simp [PyData.canLay0], by simp [PyData.depth]⟩
theorem day_flat {P : Plm} (hP : PlanOk P) (i : Nat) : (dayD P i).canLay0 = true ∧ (dayD P i).depth ≤ 4 := by
  have hw := words_ok hP i
  obtain ⟨c1, d1⟩ := ints_flat (sitAt P (i + 1)).cs
  obtain ⟨c2, d2⟩ := ints_flat (sitAt P (i + 1)).ns
  obtain ⟨c3, d3⟩ := bools_flat (sitAt P (i + 1)).hs
  obtain ⟨c4, d4⟩ := ints_flat (sitAt P (i + 1)).bx
  unfold dayD sitD wordsD
  refine ⟨?_, ?_⟩
  · simp only [PyData.canLay0, PyData.canLayAll0] at c1 c2 c3 c4 ⊢
    rw [c1, c2, c3, c4]
    have e1 := hw.1
    have e2 := hw.2
    simp only [PyData.canLay0] at e1 e2
    rw [e1, e2]
    rfl
  · simp only [PyData.depth, PyData.depthAll] at d1 d2 d3 d4 ⊢
    omega
theorem days_shaped {P : Plm} (hP : PlanOk P) {ds : List PyData} (h : ∀ d ∈ ds, ∃ i, d = dayD P i) : SeqAt.shaped (.list ds) = true := by
  unfold SeqAt.shaped
  rw [Bool.and_eq_true_iff]
  refine ⟨?_, decide_eq_true ?_⟩
  · simp only [PyData.canLay0]
    exact lay_all fun d hd => by
      obtain ⟨i, rfl⟩ := h d hd
      exact (day_flat hP i).1
  · simp only [PyData.depth]
    have := dep_all (n := 4) fun d hd => by
      obtain ⟨i, rfl⟩ := h d hd
      exact (day_flat hP i).2
    omega
end SB

set_option maxHeartbeats 4000000
namespace SB
open PySem PySem.Spec
/-! ### when a situation comes again: plans with few steps -/
/-- one of more than n numbers below n comes twice -/
theorem pigeon : ∀ (n : Nat) (f : Nat → Nat), (∀ i, i ≤ n → f i < n) → ∃ i j, i < j ∧ j ≤ n ∧ f i = f j
  | 0, f, h => absurd (h 0 (Nat.le_refl 0)) (Nat.not_lt_zero _)
  | n + 1, f, h => by
    by_cases c : ∃ i, i ≤ n ∧ f i = f (n + 1)
    · obtain ⟨i, h1, h2⟩ := c
      exact ⟨i, n + 1, by omega, Nat.le_refl _, h2⟩
    · have hne : ∀ i, i ≤ n → f i ≠ f (n + 1) := fun i hi e => c ⟨i, hi, e⟩
      have hl := h (n + 1) (Nat.le_refl _)
      obtain ⟨i, j, h1, h2, h3⟩ := pigeon n (fun i => if f i = n then f (n + 1) else f i) fun i hi => by
        have a := h i (by omega)
        have b := hne i hi
        show (if f i = n then f (n + 1) else f i) < n
        split <;> omega
      refine ⟨i, j, h1, by omega, ?_⟩
      have a := hne i (by omega)
      have b := hne j h2
      have h3 : (if f i = n then f (n + 1) else f i) = (if f j = n then f (n + 1) else f j) := h3
      split at h3 <;> split at h3 <;> omega
theorem mix_lt {a b K M : Nat} (ha : a < K) (hb : b < M) : a + K * b < K * M := by
  have : K * (b + 1) ≤ K * M := Nat.mul_le_mul_left K hb
  rw [Nat.mul_add] at this
  omega
theorem mix_inj {a b a' b' K : Nat} (ha : a < K) (ha' : a' < K) (h : a + K * b = a' + K * b') : a = a' ∧ b = b' := by
  have h1 : (a + K * b) % K = (a' + K * b') % K := by rw [h]
  rw [Nat.add_mul_mod_self_left, Nat.add_mul_mod_self_left, Nat.mod_eq_of_lt ha, Nat.mod_eq_of_lt ha'] at h1
  subst h1
  have h2 : K * b = K * b' := by omega
  exact ⟨rfl, Nat.eq_of_mul_eq_mul_left (by omega) h2⟩
/-- what a robot has of its own -/
structure Own where
  c : Nat
  n : Nat
  h : Bool
def own (S : Sit) (r : Nat) : Own := ⟨atN S.cs r, atN S.ns r, atB S.hs r⟩
theorem atB_set {l : List Bool} {i j : Nat} {x : Bool} : atB (l.set i x) j = if i = j ∧ i < l.length then x else atB l j := by
  unfold atB
  rw [List.getD_eq_getElem?_getD, List.getD_eq_getElem?_getD, List.getElem?_set]
  by_cases h : i = j
  · subst h
    by_cases c : i < l.length
    · simp [c]
    · simp [c, List.getElem?_eq_none (by omega : l.length ≤ i)]
  · simp [h]
/-- what a robot's turn does -/
def ActD (P : Plm) (S : Sit) (r : Nat) (o o' : Own) (T : Sit) : Prop :=
  (o' = o ∧ T.bx = S.bx) ∨ (o'.n = nextM P S r (stepAt P S r) ∧ (
     ((stepAt P S r).1 = "left" ∧ 0 < o.c ∧ o'.c = o.c - 1 ∧ o'.h = o.h ∧ T.bx = S.bx) ∨
     ((stepAt P S r).1 = "right" ∧ o'.c = o.c + 1 ∧ o'.h = o.h ∧ T.bx = S.bx) ∨
     ((stepAt P S r).1 = "pick" ∧ o'.c = o.c ∧ o.h = false ∧ o'.h = true ∧ 0 < atN S.bx o.c ∧ T.bx = S.bx.set o.c (atN S.bx o.c - 1)) ∨
     ((stepAt P S r).1 = "put" ∧ o'.c = o.c ∧ o.h = true ∧ o'.h = false ∧ T.bx = S.bx.set o.c (atN S.bx o.c + 1)) ∨
     ((stepAt P S r).1 ≠ "left" ∧ (stepAt P S r).1 ≠ "right" ∧ (stepAt P S r).1 ≠ "pick" ∧ (stepAt P S r).1 ≠ "put" ∧ o'.c = o.c ∧ o'.h = o.h ∧ T.bx = S.bx)))
theorem act_cases {P : Plm} {S : Sit} (h : SitOk P S) {r : Nat} (hr : r < 2) : ActD P S r (own S r) (own (actM P S r).2 r) (actM P S r).2 := by
  unfold ActD
  have h1 := h.c2
  have h2 := h.n2
  have h3 := h.h2
  unfold actM
  split
  · exact .inl ⟨rfl, rfl⟩
  · rename_i hs
    have hs : stuckM S r (stepAt P S r).1 = false := by simpa using hs
    refine .inr ⟨?_, ?_⟩
    · show atN (S.ns.set r _) r = _
      rw [atN_set, if_pos ⟨rfl, by omega⟩]
    · generalize (stepAt P S r).1 = w at hs ⊢
      unfold stuckM at hs
      unfold movedM
      by_cases c1 : w = "left"
      · rw [if_pos c1] at hs ⊢
        simp only [Bool.or_eq_false_iff, decide_eq_false_iff_not] at hs
        refine .inl ⟨c1, ?_, ?_, rfl, rfl⟩
        · show 0 < atN S.cs r
          omega
        · show atN (S.cs.set r _) r = _
          rw [atN_set, if_pos ⟨rfl, by omega⟩]
          rfl
      rw [if_neg c1] at hs ⊢
      by_cases c2 : w = "right"
      · rw [if_pos c2] at hs ⊢
        refine .inr (.inl ⟨c2, ?_, rfl, rfl⟩)
        show atN (S.cs.set r _) r = _
        rw [atN_set, if_pos ⟨rfl, by omega⟩]
        rfl
      rw [if_neg c2] at hs ⊢
      by_cases c3 : w = "pick"
      · rw [if_pos c3] at hs ⊢
        simp only [Bool.or_eq_false_iff, decide_eq_false_iff_not] at hs
        refine .inr (.inr (.inl ⟨c3, rfl, hs.1, ?_, ?_, rfl⟩))
        · show atB (S.hs.set r _) r = _
          rw [atB_set, if_pos ⟨rfl, by omega⟩]
        · show 0 < atN S.bx (atN S.cs r)
          omega
      rw [if_neg c3] at hs ⊢
      by_cases c4 : w = "put"
      · rw [if_pos c4] at hs ⊢
        simp only [Bool.or_eq_false_iff, decide_eq_false_iff_not, Bool.not_eq_false'] at hs
        refine .inr (.inr (.inr (.inl ⟨c4, rfl, hs.1, ?_, rfl⟩)))
        show atB (S.hs.set r _) r = _
        rw [atB_set, if_pos ⟨rfl, by omega⟩]
      rw [if_neg c4]
      exact .inr (.inr (.inr (.inr ⟨c1, c2, c3, c4, rfl, rfl, rfl⟩)))
theorem moved_other2 {S : Sit} {r q : Nat} (n : r ≠ q) (w : Str) : atN (movedM S r w).cs q = atN S.cs q ∧ atB (movedM S r w).hs q = atB S.hs q := by
  have e1 : ∀ (x : Nat), atN (S.cs.set r x) q = atN S.cs q := fun x => by rw [atN_set, if_neg fun c => n c.1]
  have e2 : ∀ (x : Bool), atB (S.hs.set r x) q = atB S.hs q := fun x => by rw [atB_set, if_neg fun c => n c.1]
  unfold movedM
  by_cases c1 : w = "left"
  · rw [if_pos c1]
    exact ⟨e1 _, rfl⟩
  rw [if_neg c1]
  by_cases c2 : w = "right"
  · rw [if_pos c2]
    exact ⟨e1 _, rfl⟩
  rw [if_neg c2]
  by_cases c3 : w = "pick"
  · rw [if_pos c3]
    exact ⟨rfl, e2 _⟩
  rw [if_neg c3]
  by_cases c4 : w = "put"
  · rw [if_pos c4]
    exact ⟨rfl, e2 _⟩
  rw [if_neg c4]
  exact ⟨rfl, rfl⟩
theorem act_other {P : Plm} {S : Sit} {r q : Nat} (n : r ≠ q) : own (actM P S r).2 q = own S q := by
  unfold actM
  by_cases c : stuckM S r (stepAt P S r).1 = true
  · rw [if_pos c]
  · rw [if_neg c]
    obtain ⟨h1, h2⟩ := moved_other2 (S := S) n (stepAt P S r).1
    have h3 : atN (S.ns.set r (nextM P S r (stepAt P S r))) q = atN S.ns q := by rw [atN_set, if_neg fun c => n c.1]
    show Own.mk (atN (movedM S r (stepAt P S r).1).cs q) (atN (S.ns.set r (nextM P S r (stepAt P S r))) q) (atB (movedM S r (stepAt P S r).1).hs q) = _
    rw [h1, h2, h3]
    rfl
/-- boxes on the shelf and in hands -/
def load (S : Sit) : Nat := S.bx.sum + (if atB S.hs 0 then 1 else 0) + (if atB S.hs 1 then 1 else 0)
theorem sum_set : ∀ (l : List Nat) (i x : Nat), i < l.length → (l.set i x).sum + atN l i = l.sum + x
  | [], i, x, h => absurd h (Nat.not_lt_zero _)
  | a :: l, 0, x, _ => by
    show x + l.sum + a = a + l.sum + x
    omega
  | a :: l, i + 1, x, h => by
    have := sum_set l i x (by simpa using h)
    show a + (l.set i x).sum + atN l i = a + l.sum + x
    omega
theorem act_load {P : Plm} {S : Sit} (h : SitOk P S) {r : Nat} (hr : r < 2) : load (actM P S r).2 = load S := by
  have hc := h.cl r hr
  have hb : ∀ q, q < 2 → q ≠ r → atB (actM P S r).2.hs q = atB S.hs q := fun q _ n => congrArg Own.h (act_other (P := P) (S := S) (Ne.symm n))
  have ho : (own (actM P S r).2 r).h = atB (actM P S r).2.hs r := rfl
  have hq : (own S r).h = atB S.hs r := rfl
  have hcc : (own S r).c = atN S.cs r := rfl
  unfold load
  have key : (actM P S r).2.bx.sum + (if atB (actM P S r).2.hs r then 1 else 0) = S.bx.sum + (if atB S.hs r then 1 else 0) := by
    rcases act_cases h hr with ⟨e, e2⟩ | ⟨_, ⟨_, _, _, e, e2⟩ | ⟨_, _, e, e2⟩ | ⟨_, _, e, e1, hp, e2⟩ | ⟨_, _, e, e1, e2⟩ | ⟨_, _, _, _, _, e, e2⟩⟩
    · rw [← ho, e, e2, hq]
    · rw [← ho, e, e2, hq]
    · rw [← ho, e, e2, hq]
    · rw [← ho, ← hq, e, e1, e2, hcc]
      rw [hcc] at hp
      have := sum_set S.bx (atN S.cs r) (atN S.bx (atN S.cs r) - 1) hc
      simp
      omega
    · rw [← ho, ← hq, e, e1, e2, hcc]
      have := sum_set S.bx (atN S.cs r) (atN S.bx (atN S.cs r) + 1) hc
      simp
      omega
    · rw [← ho, e, e2, hq]
  match r, hr with
  | 0, _ =>
    rw [hb 1 (by omega) (by omega)]
    omega
  | 1, _ =>
    rw [hb 0 (by omega) (by omega)]
    omega
theorem tick_load {P : Plm} (hP : PlanOk P) {S : Sit} (h : SitOk P S) : load (tickM P S).2 = load S := (act_load (act_ok hP h (by omega)) (by omega)).trans (act_load h (by omega))
theorem load_at {P : Plm} (hP : PlanOk P) : ∀ n, load (sitAt P n) = load (sit0 P)
  | 0 => rfl
  | n + 1 => (tick_load hP (sitAt_ok hP n)).trans (load_at hP n)
/-- lists that agree but at one place, and have one sum -/
theorem sum_eq : ∀ (l m : List Nat) (x : Nat), l.length = m.length → (∀ y, y ≠ x → atN l y = atN m y) → l.sum = m.sum → l = m
  | [], [], _, _, _, _ => rfl
  | a :: l, b :: m, 0, hl, h, hs => by
    have e : l = m := by
      apply List.ext_getElem?
      intro i
      have hl : l.length = m.length := by simpa using hl
      by_cases c : i < l.length
      · rw [atN_get c, atN_get (by omega), show atN l i = atN m i from h (i + 1) (by omega)]
      · rw [List.getElem?_eq_none (by omega), List.getElem?_eq_none (by omega)]
    subst e
    have hs : a + l.sum = b + l.sum := hs
    rw [show a = b by omega]
  | a :: l, b :: m, x + 1, hl, h, hs => by
    have e : a = b := h 0 (by omega)
    subst e
    have hs : a + l.sum = a + m.sum := hs
    rw [sum_eq l m x (by simpa using hl) (fun y n => h (y + 1) (by omega)) (by omega)]
theorem list2 {l m : List Nat} (hl : l.length = 2) (hm : m.length = 2) (h0 : atN l 0 = atN m 0) (h1 : atN l 1 = atN m 1) : l = m := by
  match l, hl, m, hm with
  | [a, b], _, [c, d], _ =>
    have h0 : a = c := h0
    have h1 : b = d := h1
    rw [h0, h1]
theorem list2b {l m : List Bool} (hl : l.length = 2) (hm : m.length = 2) (h0 : atB l 0 = atB m 0) (h1 : atB l 1 = atB m 1) : l = m := by
  match l, hl, m, hm with
  | [a, b], _, [c, d], _ =>
    have h0 : a = c := h0
    have h1 : b = d := h1
    rw [h0, h1]
/-- the boxes of some cells as one number -/
def bq (f : Nat → Nat) : List Nat → Nat
  | [] => 0
  | x :: xs => f x + 4 * bq f xs
theorem bq_lt {f : Nat → Nat} (h : ∀ x, f x ≤ 3) : ∀ xs : List Nat, bq f xs < 4 ^ xs.length
  | [] => Nat.zero_lt_one
  | x :: xs => by
    have := mix_lt (K := 4) (Nat.lt_succ_of_le (h x)) (bq_lt h xs)
    show f x + 4 * bq f xs < 4 ^ (xs.length + 1)
    rw [Nat.pow_succ, Nat.mul_comm (4 ^ xs.length)]
    exact this
theorem bq_inj {f g : Nat → Nat} (hf : ∀ x, f x ≤ 3) (hg : ∀ x, g x ≤ 3) : ∀ xs : List Nat, bq f xs = bq g xs → ∀ x ∈ xs, f x = g x
  | [], _, x, hx => by cases hx
  | y :: xs, h, x, hx => by
    obtain ⟨h1, h2⟩ := mix_inj (K := 4) (Nat.lt_succ_of_le (hf y)) (Nat.lt_succ_of_le (hg y)) h
    rcases List.mem_cons.mp hx with e | e
    · rw [e]; exact h1
    · exact bq_inj hf hg xs h2 x e
/-- what bounds a robot: what only grows (φ), what tells the rest of its own (κ), the cells whose boxes it can change meanwhile (A) -/
structure Rob (P : Plm) (r : Nat) where
  φ : Own → Nat
  κ : Own → Nat
  A : Own → List Nat
  I : Own → Prop
  F : Nat
  K : Nat
  a : Nat
  start : I (own (sit0 P) r)
  step : ∀ S, SitOk P S → I (own S r) → SitOk P (actM P S r).2 → I (own (actM P S r).2 r) ∧ φ (own S r) ≤ φ (own (actM P S r).2 r) ∧ (φ (own (actM P S r).2 r) = φ (own S r) → A (own (actM P S r).2 r) = A (own S r) ∧ ∀ x, x ∉ A (own S r) → atN (actM P S r).2.bx x = atN S.bx x)
  inj : ∀ o o', I o → I o' → φ o = φ o' → κ o = κ o' → o = o'
  bF : ∀ o, I o → φ o ≤ F
  bK : ∀ o, I o → κ o < K
  bA : ∀ o, (A o).length = a
section
variable {P : Plm} (hP : PlanOk P) (R0 : Rob P 0) (R1 : Rob P 1)
include hP
theorem rob_I (n : Nat) : R0.I (own (sitAt P n) 0) ∧ R1.I (own (sitAt P n) 1) := by
  induction n with
  | zero => exact ⟨R0.start, R1.start⟩
  | succ n ih =>
    have ok := sitAt_ok hP n
    have ok1 := act_ok hP ok (r := 0) (by omega)
    have ok2 := act_ok hP ok1 (r := 1) (by omega)
    have s0 := (R0.step _ ok ih.1 ok1).1
    have s1 := R1.step _ ok1 (by rw [act_other (by decide)]; exact ih.2) ok2
    refine ⟨?_, s1.1⟩
    show R0.I (own (actM P (actM P (sitAt P n) 0).2 1).2 0)
    rw [act_other (by decide)]
    exact s0
theorem rob_tick (n : Nat) : R0.φ (own (sitAt P n) 0) ≤ R0.φ (own (sitAt P (n + 1)) 0) ∧ R1.φ (own (sitAt P n) 1) ≤ R1.φ (own (sitAt P (n + 1)) 1) ∧
    (R0.φ (own (sitAt P (n + 1)) 0) = R0.φ (own (sitAt P n) 0) → R1.φ (own (sitAt P (n + 1)) 1) = R1.φ (own (sitAt P n) 1) → R0.A (own (sitAt P (n + 1)) 0) = R0.A (own (sitAt P n) 0) ∧ R1.A (own (sitAt P (n + 1)) 1) = R1.A (own (sitAt P n) 1) ∧
      ∀ x, x ∉ R0.A (own (sitAt P n) 0) → x ∉ R1.A (own (sitAt P n) 1) → atN (sitAt P (n + 1)).bx x = atN (sitAt P n).bx x) := by
  have ok := sitAt_ok hP n
  have ok1 := act_ok hP ok (r := 0) (by omega)
  have ok2 := act_ok hP ok1 (r := 1) (by omega)
  obtain ⟨i0, i1⟩ := rob_I hP R0 R1 n
  obtain ⟨a1, a2, a3⟩ := R0.step _ ok i0 ok1
  have e1 : own (actM P (sitAt P n) 0).2 1 = own (sitAt P n) 1 := act_other (by decide)
  have e0 : own (sitAt P (n + 1)) 0 = own (actM P (sitAt P n) 0).2 0 := act_other (P := P) (S := (actM P (sitAt P n) 0).2) (by decide)
  obtain ⟨b1, b2, b3⟩ := R1.step _ ok1 (by rw [e1]; exact i1) ok2
  rw [e1] at b2 b3
  have e2 : own (sitAt P (n + 1)) 1 = own (actM P (actM P (sitAt P n) 0).2 1).2 1 := rfl
  refine ⟨by rw [e0]; exact a2, b2, fun h0 h1 => ?_⟩
  rw [e0] at h0
  obtain ⟨c1, c2⟩ := a3 h0
  obtain ⟨d1, d2⟩ := b3 h1
  exact ⟨by rw [e0]; exact c1, d1, fun x n0 n1 => (d2 x n1).trans (c2 x n0)⟩
theorem rob_mono (i k : Nat) : R0.φ (own (sitAt P i) 0) ≤ R0.φ (own (sitAt P (i + k)) 0) ∧ R1.φ (own (sitAt P i) 1) ≤ R1.φ (own (sitAt P (i + k)) 1) := by
  induction k with
  | zero => exact ⟨Nat.le_refl _, Nat.le_refl _⟩
  | succ k ih =>
    obtain ⟨a, b, _⟩ := rob_tick hP R0 R1 (i + k)
    exact ⟨Nat.le_trans ih.1 a, Nat.le_trans ih.2 b⟩
theorem rob_same (i k : Nat) (h0 : R0.φ (own (sitAt P (i + k)) 0) = R0.φ (own (sitAt P i) 0)) (h1 : R1.φ (own (sitAt P (i + k)) 1) = R1.φ (own (sitAt P i) 1)) :
    R0.A (own (sitAt P (i + k)) 0) = R0.A (own (sitAt P i) 0) ∧ R1.A (own (sitAt P (i + k)) 1) = R1.A (own (sitAt P i) 1) ∧
      ∀ x, x ∉ R0.A (own (sitAt P i) 0) → x ∉ R1.A (own (sitAt P i) 1) → atN (sitAt P (i + k)).bx x = atN (sitAt P i).bx x := by
  induction k with
  | zero => exact ⟨rfl, rfl, fun _ _ _ => rfl⟩
  | succ k ih =>
    obtain ⟨a, b, c⟩ := rob_tick hP R0 R1 (i + k)
    obtain ⟨m0, m1⟩ := rob_mono hP R0 R1 i k
    have h0' : R0.φ (own (sitAt P (i + k + 1)) 0) = R0.φ (own (sitAt P i) 0) := h0
    have h1' : R1.φ (own (sitAt P (i + k + 1)) 1) = R1.φ (own (sitAt P i) 1) := h1
    obtain ⟨c1, c2, c3⟩ := c (by omega) (by omega)
    obtain ⟨d1, d2, d3⟩ := ih (by omega) (by omega)
    exact ⟨c1.trans d1, c2.trans d2, fun x n0 n1 => (c3 x (by rw [d1]; exact n0) (by rw [d2]; exact n1)).trans (d3 x n0 n1)⟩
def robQ (S : Sit) : Nat := bq (atN S.bx) ((R0.A (own S 0) ++ R1.A (own S 1)).drop 1)
def rbCode (S : Sit) : Nat := (R0.φ (own S 0) + R1.φ (own S 1)) + (R0.F + R1.F + 1) * (R0.κ (own S 0) + R0.K * (R1.κ (own S 1) + R1.K * robQ R0 R1 S))
omit hP in
theorem robQ_lt {S : Sit} (ok : SitOk P S) : robQ R0 R1 S < 4 ^ (R0.a + R1.a - 1) := by
  have := bq_lt (f := atN S.bx) ok.b3 ((R0.A (own S 0) ++ R1.A (own S 1)).drop 1)
  rw [List.length_drop, List.length_append, R0.bA, R1.bA] at this
  exact this
theorem rob_lt (n : Nat) : rbCode R0 R1 (sitAt P n) < (R0.F + R1.F + 1) * (R0.K * (R1.K * 4 ^ (R0.a + R1.a - 1))) := by
  obtain ⟨i0, i1⟩ := rob_I hP R0 R1 n
  have f0 := R0.bF _ i0
  have f1 := R1.bF _ i1
  exact mix_lt (by omega) (mix_lt (R0.bK _ i0) (mix_lt (R1.bK _ i1) (robQ_lt R0 R1 (sitAt_ok hP n))))
theorem rob_inj (i k : Nat) (h : rbCode R0 R1 (sitAt P i) = rbCode R0 R1 (sitAt P (i + k))) : sitAt P i = sitAt P (i + k) := by
  obtain ⟨i0, i1⟩ := rob_I hP R0 R1 i
  obtain ⟨j0, j1⟩ := rob_I hP R0 R1 (i + k)
  have f0 := R0.bF _ i0
  have f1 := R1.bF _ i1
  have g0 := R0.bF _ j0
  have g1 := R1.bF _ j1
  obtain ⟨e1, h⟩ := mix_inj (by omega) (by omega) h
  obtain ⟨e2, h⟩ := mix_inj (R0.bK _ i0) (R0.bK _ j0) h
  obtain ⟨e3, h⟩ := mix_inj (R1.bK _ i1) (R1.bK _ j1) h
  obtain ⟨m0, m1⟩ := rob_mono hP R0 R1 i k
  have p0 : R0.φ (own (sitAt P (i + k)) 0) = R0.φ (own (sitAt P i) 0) := by omega
  have p1 : R1.φ (own (sitAt P (i + k)) 1) = R1.φ (own (sitAt P i) 1) := by omega
  obtain ⟨a0, a1, a2⟩ := rob_same hP R0 R1 i k p0 p1
  have o0 := R0.inj _ _ i0 j0 p0.symm e2
  have o1 := R1.inj _ _ i1 j1 p1.symm e3
  have ok := sitAt_ok hP i
  have ok' := sitAt_ok hP (i + k)
  have ld : load (sitAt P i) = load (sitAt P (i + k)) := (load_at hP i).trans (load_at hP (i + k)).symm
  have hb0 : atB (sitAt P i).hs 0 = atB (sitAt P (i + k)).hs 0 := congrArg Own.h o0
  have hb1 : atB (sitAt P i).hs 1 = atB (sitAt P (i + k)).hs 1 := congrArg Own.h o1
  have hsum : (sitAt P i).bx.sum = (sitAt P (i + k)).bx.sum := by
    unfold load at ld
    rw [hb0, hb1] at ld
    omega
  have hq : ∀ x ∈ (R0.A (own (sitAt P i) 0) ++ R1.A (own (sitAt P i) 1)).drop 1, atN (sitAt P i).bx x = atN (sitAt P (i + k)).bx x := by
    refine bq_inj ok.b3 ok'.b3 _ ?_
    unfold robQ at h
    rw [a0, a1] at h
    exact h
  have hl : (sitAt P i).bx.length = (sitAt P (i + k)).bx.length := ok.bl.trans ok'.bl.symm
  have hbx : (sitAt P i).bx = (sitAt P (i + k)).bx := by
    refine sum_eq _ _ ((R0.A (own (sitAt P i) 0) ++ R1.A (own (sitAt P i) 1)).headD 0) hl (fun y hy => ?_) hsum
    by_cases c : y ∈ R0.A (own (sitAt P i) 0) ++ R1.A (own (sitAt P i) 1)
    · refine hq y ?_
      match hA : R0.A (own (sitAt P i) 0) ++ R1.A (own (sitAt P i) 1), c with
      | [], c => cases c
      | z :: zs, c =>
        rw [hA] at hy
        rcases List.mem_cons.mp c with e | e
        · exact absurd e hy
        · exact e
    · rw [List.mem_append, not_or] at c
      exact (a2 y c.1 c.2).symm
  have hc : (sitAt P i).cs = (sitAt P (i + k)).cs := list2 ok.c2 ok'.c2 (congrArg Own.c o0) (congrArg Own.c o1)
  have hn : (sitAt P i).ns = (sitAt P (i + k)).ns := list2 ok.n2 ok'.n2 (congrArg Own.n o0) (congrArg Own.n o1)
  have hh : (sitAt P i).hs = (sitAt P (i + k)).hs := list2b ok.h2 ok'.h2 hb0 hb1
  generalize sitAt P i = S at *
  generalize sitAt P (i + k) = T at *
  cases S
  cases T
  simp only at hc hn hh hbx
  rw [hc, hn, hh, hbx]
theorem rob_repeats {N : Nat} (hN : (R0.F + R1.F + 1) * (R0.K * (R1.K * 4 ^ (R0.a + R1.a - 1))) ≤ N) : Repeats P N := by
  obtain ⟨i, j, h1, h2, h3⟩ := pigeon N (fun n => rbCode R0 R1 (sitAt P n)) fun n _ => Nat.lt_of_lt_of_le (rob_lt hP R0 R1 n) hN
  refine ⟨i, j, h1, h2, ?_⟩
  have e := rob_inj hP R0 R1 i (j - i)
  rw [show i + (j - i) = j by omega] at e
  exact e h3
end
end SB

set_option maxHeartbeats 4000000
namespace SB
open PySem PySem.Spec
section
variable {P : Plm} {r : Nat}
theorem own_lt (hP : PlanOk P) (h8 : P.bx.length ≤ 8) (hr : r < 2) (hl : (lns P r).length ≤ 7) {S : Sit} (ok : SitOk P S) : (own S r).c < 8 ∧ (own S r).n < 7 := by
  have h1 := ok.cl r hr
  have h2 := ok.nl r hr
  have h3 := ok.bl
  exact ⟨by show atN S.cs r < 8; omega, by show atN S.ns r < 7; omega⟩
def hN (b : Bool) : Nat := if b then 1 else 0
theorem hN_inj {a b : Bool} (h : hN a = hN b) : a = b := by cases a <;> cases b <;> first | rfl | cases h
theorem hN_lt (b : Bool) : hN b < 2 := by cases b <;> decide
theorem own_ext {o o' : Own} (h1 : o.c = o'.c) (h2 : o.n = o'.n) (h3 : o.h = o'.h) : o = o' := by
  cases o
  cases o'
  simp only at h1 h2 h3
  rw [h1, h2, h3]
def robM (hP : PlanOk P) (h8 : P.bx.length ≤ 8) (hr : r < 2) (hl : (lns P r).length ≤ 7) (hn : ∀ s ∈ lns P r, s.1 ≠ "left") : Rob P r where
  φ o := o.c
  κ o := o.n + 7 * hN o.h
  A o := [o.c]
  I o := o.c < 8 ∧ o.n < 7
  F := 7
  K := 14
  a := 1
  start := own_lt hP h8 hr hl (sit0_ok hP)
  step S ok i ok' := by
    refine ⟨own_lt hP h8 hr hl ok', ?_⟩
    have hm := hn _ (step_mem ok hr)
    rcases act_cases ok hr with ⟨e, e2⟩ | ⟨_, ⟨e, _⟩ | ⟨_, e, _⟩ | ⟨_, e, _, _, _, e2⟩ | ⟨_, e, _, _, e2⟩ | ⟨_, _, _, _, e, _, e2⟩⟩
    · rw [e]
      exact ⟨Nat.le_refl _, fun _ => ⟨rfl, fun x _ => by rw [e2]⟩⟩
    · exact absurd e hm
    · rw [e]
      exact ⟨by omega, fun h => by omega⟩
    · rw [e]
      refine ⟨Nat.le_refl _, fun _ => ⟨rfl, fun x hx => ?_⟩⟩
      rw [e2, atN_set, if_neg fun c => hx (by rw [← c.1]; exact List.mem_singleton_self _)]
    · rw [e]
      refine ⟨Nat.le_refl _, fun _ => ⟨rfl, fun x hx => ?_⟩⟩
      rw [e2, atN_set, if_neg fun c => hx (by rw [← c.1]; exact List.mem_singleton_self _)]
    · rw [e]
      exact ⟨Nat.le_refl _, fun _ => ⟨rfl, fun x _ => by rw [e2]⟩⟩
  inj o o' i i' h1 h2 := by
    obtain ⟨e1, e2⟩ := mix_inj i.2 i'.2 h2
    exact own_ext h1 e1 (hN_inj e2)
  bF o i := by have := i.1; omega
  bK o i := mix_lt (M := 2) i.2 (hN_lt _)
  bA o := rfl
def robM' (hP : PlanOk P) (h8 : P.bx.length ≤ 8) (hr : r < 2) (hl : (lns P r).length ≤ 7) (hn : ∀ s ∈ lns P r, s.1 ≠ "right") : Rob P r where
  φ o := 7 - o.c
  κ o := o.n + 7 * hN o.h
  A o := [o.c]
  I o := o.c < 8 ∧ o.n < 7
  F := 7
  K := 14
  a := 1
  start := own_lt hP h8 hr hl (sit0_ok hP)
  step S ok i ok' := by
    refine ⟨own_lt hP h8 hr hl ok', ?_⟩
    have hm := hn _ (step_mem ok hr)
    rcases act_cases ok hr with ⟨e, e2⟩ | ⟨_, ⟨_, e0, e, _⟩ | ⟨e, _⟩ | ⟨_, e, _, _, _, e2⟩ | ⟨_, e, _, _, e2⟩ | ⟨_, _, _, _, e, _, e2⟩⟩
    · rw [e]
      exact ⟨Nat.le_refl _, fun _ => ⟨rfl, fun x _ => by rw [e2]⟩⟩
    · rw [e]
      have := i.1
      exact ⟨by omega, fun h => by omega⟩
    · exact absurd e hm
    · rw [e]
      refine ⟨Nat.le_refl _, fun _ => ⟨rfl, fun x hx => ?_⟩⟩
      rw [e2, atN_set, if_neg fun c => hx (by rw [← c.1]; exact List.mem_singleton_self _)]
    · rw [e]
      refine ⟨Nat.le_refl _, fun _ => ⟨rfl, fun x hx => ?_⟩⟩
      rw [e2, atN_set, if_neg fun c => hx (by rw [← c.1]; exact List.mem_singleton_self _)]
    · rw [e]
      exact ⟨Nat.le_refl _, fun _ => ⟨rfl, fun x _ => by rw [e2]⟩⟩
  inj o o' i i' h1 h2 := by
    obtain ⟨e1, e2⟩ := mix_inj i.2 i'.2 h2
    have := i.1
    have := i'.1
    exact own_ext (by omega) e1 (hN_inj e2)
  bF o i := by omega
  bK o i := mix_lt (M := 2) i.2 (hN_lt _)
  bA o := rfl
def robL (hP : PlanOk P) (h8 : P.bx.length ≤ 8) (hr : r < 2) (hl : (lns P r).length ≤ 7) (hn : ∀ s ∈ lns P r, s.1 ≠ "put") : Rob P r where
  φ o := hN o.h
  κ o := o.n + 7 * o.c
  A o := []
  I o := o.c < 8 ∧ o.n < 7
  F := 1
  K := 56
  a := 0
  start := own_lt hP h8 hr hl (sit0_ok hP)
  step S ok i ok' := by
    refine ⟨own_lt hP h8 hr hl ok', ?_⟩
    have hm := hn _ (step_mem ok hr)
    rcases act_cases ok hr with ⟨e, e2⟩ | ⟨_, ⟨_, _, _, e, e2⟩ | ⟨_, _, e, e2⟩ | ⟨_, _, e1, e, _, e2⟩ | ⟨e, _⟩ | ⟨_, _, _, _, _, e, e2⟩⟩
    · rw [e]
      exact ⟨Nat.le_refl _, fun _ => ⟨rfl, fun x _ => by rw [e2]⟩⟩
    · rw [e]
      exact ⟨Nat.le_refl _, fun _ => ⟨rfl, fun x _ => by rw [e2]⟩⟩
    · rw [e]
      exact ⟨Nat.le_refl _, fun _ => ⟨rfl, fun x _ => by rw [e2]⟩⟩
    · rw [e, e1]
      exact ⟨by decide, fun h => by cases h⟩
    · exact absurd e hm
    · rw [e]
      exact ⟨Nat.le_refl _, fun _ => ⟨rfl, fun x _ => by rw [e2]⟩⟩
  inj o o' i i' h1 h2 := by
    obtain ⟨e1, e2⟩ := mix_inj i.2 i'.2 h2
    exact own_ext e2 e1 (hN_inj h1)
  bF o i := by have := hN_lt o.h; omega
  bK o i := mix_lt (M := 8) i.2 i.1
  bA o := rfl
def robL' (hP : PlanOk P) (h8 : P.bx.length ≤ 8) (hr : r < 2) (hl : (lns P r).length ≤ 7) (hn : ∀ s ∈ lns P r, s.1 ≠ "pick") : Rob P r where
  φ o := 0
  κ o := o.n + 7 * o.c
  A o := []
  I o := o.c < 8 ∧ o.n < 7 ∧ o.h = false
  F := 1
  K := 56
  a := 0
  start := ⟨(own_lt hP h8 hr hl (sit0_ok hP)).1, (own_lt hP h8 hr hl (sit0_ok hP)).2, by
    match r, hr with
    | 0, _ => rfl
    | 1, _ => rfl⟩
  step S ok i ok' := by
    have hm := hn _ (step_mem ok hr)
    obtain ⟨l1, l2⟩ := own_lt hP h8 hr hl ok'
    have hf := i.2.2
    rcases act_cases ok hr with ⟨e, e2⟩ | ⟨_, ⟨_, _, _, e, e2⟩ | ⟨_, _, e, e2⟩ | ⟨e, _⟩ | ⟨_, _, e, _⟩ | ⟨_, _, _, _, _, e, e2⟩⟩
    · exact ⟨⟨l1, l2, by rw [e]; exact hf⟩, Nat.le_refl _, fun _ => ⟨rfl, fun x _ => by rw [e2]⟩⟩
    · exact ⟨⟨l1, l2, by rw [e]; exact hf⟩, Nat.le_refl _, fun _ => ⟨rfl, fun x _ => by rw [e2]⟩⟩
    · exact ⟨⟨l1, l2, by rw [e]; exact hf⟩, Nat.le_refl _, fun _ => ⟨rfl, fun x _ => by rw [e2]⟩⟩
    · exact absurd e hm
    · rw [hf] at e
      cases e
    · exact ⟨⟨l1, l2, by rw [e]; exact hf⟩, Nat.le_refl _, fun _ => ⟨rfl, fun x _ => by rw [e2]⟩⟩
  inj o o' i i' h1 h2 := by
    obtain ⟨e1, e2⟩ := mix_inj i.2.1 i'.2.1 h2
    exact own_ext e2 e1 (by rw [i.2.2, i'.2.2])
  bF o i := by omega
  bK o i := mix_lt (M := 8) i.2.1 i.1
  bA o := rfl
/-! ### to and fro with a box, no jump -/
def isW (w : Str) (s : Lk) : Bool := decide (s.1 = w)
/-- how often a word stands among the first k steps -/
def cW (l : List Lk) (w : Str) (k : Nat) : Nat := (l.take k).countP (isW w)
theorem cW_zero (l : List Lk) (w : Str) : cW l w 0 = 0 := rfl
theorem cW_succ {l : List Lk} {k : Nat} {s : Lk} (h : l[k]? = some s) (w : Str) : cW l w (k + 1) = cW l w k + (if s.1 = w then 1 else 0) := by
  unfold cW
  rw [List.take_add_one, h, List.countP_append]
  show _ + List.countP (isW w) [s] = _
  rw [List.countP_singleton]
  unfold isW
  by_cases c : s.1 = w <;> simp [c]
theorem cW_le {l : List Lk} {k : Nat} (w : Str) : cW l w k ≤ l.countP (isW w) := (List.take_sublist k l).countP_le
theorem cW_all {l : List Lk} (w : Str) : cW l w l.length = l.countP (isW w) := by unfold cW; rw [List.take_length]
theorem one_at {α : Type} (p : α → Bool) : ∀ l : List α, l.countP p ≤ 1 → ∃ i : Nat, ∀ (n : Nat) (x : α), l[n]? = some x → p x = true → n = i
  | [], _ => ⟨0, fun n x h _ => by simp at h⟩
  | a :: l, h => by
    by_cases c : p a = true
    · rw [List.countP_cons_of_pos c] at h
      refine ⟨0, fun n x hx hp => ?_⟩
      match n, hx with
      | 0, _ => rfl
      | n + 1, hx =>
        have : 0 < l.countP p := List.countP_pos_iff.mpr ⟨x, List.mem_of_getElem? hx, hp⟩
        omega
    · rw [List.countP_cons_of_neg c] at h
      obtain ⟨i, hi⟩ := one_at p l h
      refine ⟨i + 1, fun n x hx hp => ?_⟩
      match n, hx with
      | 0, hx =>
        have hx : some a = some x := hx
        cases hx
        exact absurd hp c
      | n + 1, hx => rw [hi n x hx hp]
structure Bal (l : List Lk) : Prop where
  nj : ∀ s ∈ l, s.1 ∉ jumps
  lr : l.countP (isW "left") = l.countP (isW "right")
  p1 : l.countP (isW "pick") = 1
  u1 : l.countP (isW "put") = 1
structure BalI (l : List Lk) (x0 c n : Nat) (h : Bool) : Prop where
  pos : c + cW l "left" n = x0 + cW l "right" n
  hold : h = decide (cW l "pick" n = 1 ∧ cW l "put" n = 0)
  ord : 1 ≤ cW l "put" n → 1 ≤ cW l "pick" n
theorem next_nj {S : Sit} {s : Lk} (h : s.1 ∉ jumps) : nextM P S r s = (atN S.ns r + 1) % (lns P r).length := by
  unfold nextM
  rw [if_neg]
  intro c
  unfold jumpM at c
  simp only [Bool.or_eq_true, Bool.and_eq_true, decide_eq_true_eq] at c
  refine h ?_
  unfold jumps
  rcases c with (c | c) | c
  · rw [c]; simp
  · rw [c.1]; simp
  · rw [c.1]; simp
/-- one step further, before the list's end is looked at -/
theorem bal_step {S T : Sit} (B : Bal (lns P r)) {x0 : Nat} (ok : SitOk P S) (hr : r < 2) {o' : Own} (i : BalI (lns P r) x0 (own S r).c (own S r).n (own S r).h)
    (a : ((stepAt P S r).1 = "left" ∧ 0 < (own S r).c ∧ o'.c = (own S r).c - 1 ∧ o'.h = (own S r).h ∧ T.bx = S.bx) ∨
     ((stepAt P S r).1 = "right" ∧ o'.c = (own S r).c + 1 ∧ o'.h = (own S r).h ∧ T.bx = S.bx) ∨
     ((stepAt P S r).1 = "pick" ∧ o'.c = (own S r).c ∧ (own S r).h = false ∧ o'.h = true ∧ 0 < atN S.bx (own S r).c ∧ T.bx = S.bx.set (own S r).c (atN S.bx (own S r).c - 1)) ∨
     ((stepAt P S r).1 = "put" ∧ o'.c = (own S r).c ∧ (own S r).h = true ∧ o'.h = false ∧ T.bx = S.bx.set (own S r).c (atN S.bx (own S r).c + 1)) ∨
     ((stepAt P S r).1 ≠ "left" ∧ (stepAt P S r).1 ≠ "right" ∧ (stepAt P S r).1 ≠ "pick" ∧ (stepAt P S r).1 ≠ "put" ∧ o'.c = (own S r).c ∧ o'.h = (own S r).h ∧ T.bx = S.bx)) :
    BalI (lns P r) x0 o'.c ((own S r).n + 1) o'.h := by
  have g : (lns P r)[(own S r).n]? = some (stepAt P S r) := step_get ok hr
  have c1 := cW_succ g "left"
  have c2 := cW_succ g "right"
  have c3 := cW_succ g "pick"
  have c4 := cW_succ g "put"
  obtain ⟨i1, i2, i3⟩ := i
  rcases a with ⟨e, e0, e1, e2, _⟩ | ⟨e, e1, e2, _⟩ | ⟨e, e1, e3, e2, _⟩ | ⟨e, e1, e3, e2, _⟩ | ⟨n1, n2, n3, n4, e1, e2, _⟩
  · rw [e] at c1 c2 c3 c4
    rw [if_pos rfl] at c1
    rw [if_neg (by decide +kernel)] at c2 c3 c4
    exact ⟨by rw [e1, c1, c2]; omega, by rw [e2, c3, c4, Nat.add_zero, Nat.add_zero]; exact i2, by rw [c3, c4]; exact i3⟩
  · rw [e] at c1 c2 c3 c4
    rw [if_pos rfl] at c2
    rw [if_neg (by decide +kernel)] at c1 c3 c4
    exact ⟨by rw [e1, c1, c2]; omega, by rw [e2, c3, c4, Nat.add_zero, Nat.add_zero]; exact i2, by rw [c3, c4]; exact i3⟩
  · rw [e] at c1 c2 c3 c4
    rw [if_pos rfl] at c3
    rw [if_neg (by decide +kernel)] at c1 c2 c4
    have l1 := cW_le (l := lns P r) (k := (own S r).n + 1) "pick"
    rw [B.p1] at l1
    have z : cW (lns P r) "put" (own S r).n = 0 := by
      rcases Nat.eq_zero_or_pos (cW (lns P r) "put" (own S r).n) with z | z
      · exact z
      · have := i3 z
        omega
    refine ⟨by rw [e1, c1, c2]; omega, ?_, fun _ => by omega⟩
    rw [e2, c3, c4, z, decide_eq_true (by omega)]
  · rw [e] at c1 c2 c3 c4
    rw [if_pos rfl] at c4
    rw [if_neg (by decide +kernel)] at c1 c2 c3
    rw [e3] at i2
    have i2 := of_decide_eq_true i2.symm
    refine ⟨by rw [e1, c1, c2]; omega, ?_, fun _ => by omega⟩
    rw [e2, decide_eq_false (by omega)]
  · rw [if_neg n1] at c1
    rw [if_neg n2] at c2
    rw [if_neg n3] at c3
    rw [if_neg n4] at c4
    exact ⟨by rw [e1, c1, c2]; omega, by rw [e2, c3, c4, Nat.add_zero, Nat.add_zero]; exact i2, by rw [c3, c4]; exact i3⟩
theorem bal_wrap {l : List Lk} (B : Bal l) {x0 c n : Nat} {h : Bool} (hn : n < l.length) (i : BalI l x0 c (n + 1) h) : BalI l x0 c ((n + 1) % l.length) h := by
  by_cases q : n + 1 < l.length
  · rw [Nat.mod_eq_of_lt q]
    exact i
  · have e : n + 1 = l.length := by omega
    rw [e] at i ⊢
    rw [Nat.mod_self]
    obtain ⟨i1, i2, i3⟩ := i
    rw [cW_all, cW_all, B.lr] at i1
    rw [cW_all, cW_all, B.p1, B.u1] at i2
    exact ⟨by rw [cW_zero, cW_zero]; omega, i2, fun h => by rw [cW_zero] at h; cases h⟩
theorem bal_cell {l : List Lk} (B : Bal l) (x0 : Nat) (w : Str) (hw : l.countP (isW w) = 1) : ∃ x : Nat, ∀ (n : Nat) (s : Lk) (c : Nat) (h : Bool), l[n]? = some s → s.1 = w → BalI l x0 c n h → c = x := by
  obtain ⟨i, hi⟩ := one_at (isW w) l (by omega)
  refine ⟨x0 + cW l "right" i - cW l "left" i, fun n s c h hs e I => ?_⟩
  have := hi n s hs (decide_eq_true e)
  subst this
  have := I.pos
  omega
noncomputable def robB (hP : PlanOk P) (h8 : P.bx.length ≤ 8) (hr : r < 2) (hl : (lns P r).length ≤ 7) (B : Bal (lns P r)) : Rob P r where
  φ o := 0
  κ o := o.n
  A o := [(bal_cell B (own (sit0 P) r).c "pick" B.p1).choose, (bal_cell B (own (sit0 P) r).c "put" B.u1).choose]
  I o := o.c < 8 ∧ o.n < 7 ∧ BalI (lns P r) (own (sit0 P) r).c o.c o.n o.h
  F := 0
  K := 7
  a := 2
  start := by
    obtain ⟨l1, l2⟩ := own_lt hP h8 hr hl (sit0_ok hP)
    refine ⟨l1, l2, ?_⟩
    have e : (own (sit0 P) r).n = 0 ∧ (own (sit0 P) r).h = false := by
      match r, hr with
      | 0, _ => exact ⟨rfl, rfl⟩
      | 1, _ => exact ⟨rfl, rfl⟩
    rw [e.1, e.2]
    exact ⟨rfl, by rw [cW_zero]; rfl, fun h => by rw [cW_zero] at h; cases h⟩
  step S ok i ok' := by
    obtain ⟨l1, l2⟩ := own_lt hP h8 hr hl ok'
    have hg : (lns P r)[(own S r).n]? = some (stepAt P S r) := step_get ok hr
    have hj := B.nj _ (step_mem ok hr)
    rcases act_cases ok hr with ⟨e, e2⟩ | ⟨en, a⟩
    · exact ⟨⟨l1, l2, by rw [e]; exact i.2.2⟩, Nat.le_refl _, fun _ => ⟨rfl, fun x _ => by rw [e2]⟩⟩
    · refine ⟨⟨l1, l2, ?_⟩, Nat.le_refl _, fun _ => ⟨rfl, fun x hx => ?_⟩⟩
      · rw [en, next_nj hj]
        exact bal_wrap B (ok.nl r hr) (bal_step B ok hr i.2.2 a)
      · rcases a with ⟨_, _, _, _, e2⟩ | ⟨_, _, _, e2⟩ | ⟨e, _, _, _, _, e2⟩ | ⟨e, _, _, _, e2⟩ | ⟨_, _, _, _, _, _, e2⟩
        · rw [e2]
        · rw [e2]
        · rw [e2, atN_set, if_neg fun c => hx ?_]
          have := (bal_cell B (own (sit0 P) r).c "pick" B.p1).choose_spec _ _ _ _ hg e i.2.2
          rw [← c.1, this]
          exact List.mem_cons_self
        · rw [e2, atN_set, if_neg fun c => hx ?_]
          have := (bal_cell B (own (sit0 P) r).c "put" B.u1).choose_spec _ _ _ _ hg e i.2.2
          rw [← c.1, this]
          exact List.mem_cons_of_mem _ (List.mem_singleton_self _)
        · rw [e2]
  inj o o' i i' h1 h2 := by
    have h2 : o.n = o'.n := h2
    obtain ⟨p1, p2, _⟩ := i.2.2
    obtain ⟨q1, q2, _⟩ := i'.2.2
    rw [h2] at p1 p2
    exact own_ext (by omega) h2 (p2.trans q2.symm)
  bF o i := Nat.le_refl _
  bK o i := i.2.1
  bA o := rfl
end
/-- steps of which a bound is known -/
def FewOk (l : List Lk) : Prop := l.length ≤ 7 ∧ ((∀ s ∈ l, s.1 ≠ "left") ∨ (∀ s ∈ l, s.1 ≠ "right") ∨ (∀ s ∈ l, s.1 ≠ "put") ∨ (∀ s ∈ l, s.1 ≠ "pick") ∨ Bal l)
theorem few_rob {P : Plm} {r : Nat} (hP : PlanOk P) (h8 : P.bx.length ≤ 8) (hr : r < 2) (f : FewOk (lns P r)) : ∃ R : Rob P r, (R.F = 7 ∧ R.K = 14 ∧ R.a = 1) ∨ (R.F = 1 ∧ R.K = 56 ∧ R.a = 0) ∨ (R.F = 0 ∧ R.K = 7 ∧ R.a = 2) := by
  obtain ⟨hl, h | h | h | h | h⟩ := f
  · exact ⟨robM hP h8 hr hl h, .inl ⟨rfl, rfl, rfl⟩⟩
  · exact ⟨robM' hP h8 hr hl h, .inl ⟨rfl, rfl, rfl⟩⟩
  · exact ⟨robL hP h8 hr hl h, .inr (.inl ⟨rfl, rfl, rfl⟩)⟩
  · exact ⟨robL' hP h8 hr hl h, .inr (.inl ⟨rfl, rfl, rfl⟩)⟩
  · exact ⟨robB hP h8 hr hl h, .inr (.inr ⟨rfl, rfl, rfl⟩)⟩
/-- plans with few steps repeat early, whatever their starts -/
theorem few_repeats {P : Plm} (hP : PlanOk P) (h8 : P.bx.length ≤ 8) (f0 : FewOk P.l0) (f1 : FewOk P.l1) : Repeats P 13000 := by
  obtain ⟨R0, h0⟩ := few_rob (r := 0) hP h8 (by decide) f0
  obtain ⟨R1, h1⟩ := few_rob (r := 1) hP h8 (by decide) f1
  refine rob_repeats hP R0 R1 ?_
  rcases h0 with ⟨a, b, c⟩ | ⟨a, b, c⟩ | ⟨a, b, c⟩ <;> rcases h1 with ⟨d, e, f⟩ | ⟨d, e, f⟩ | ⟨d, e, f⟩ <;> rw [a, b, c, d, e, f] <;> decide
/-- all steps but waits -/
def nonW (s : Lk) : Bool := !decide (s.1 = "wait")
def isJ (s : Lk) : Bool := decide (s.1 ∈ jumps)
theorem count_all : ∀ l : List Lk, (∀ s ∈ l, s.1 ∈ commands) → l.countP nonW = l.countP (isW "left") + l.countP (isW "right") + l.countP (isW "pick") + l.countP (isW "put") + l.countP isJ
  | [], _ => rfl
  | s :: l, h => by
    have ih := count_all l fun s hs => h s (List.mem_cons_of_mem _ hs)
    have hs := h s List.mem_cons_self
    obtain ⟨w, t⟩ := s
    simp only [List.countP_cons]
    rw [ih]
    have hs : w ∈ commands := hs
    unfold commands at hs
    simp only [List.mem_cons, List.not_mem_nil, or_false] at hs
    have key0 : ∀ u : Option Nat, u = none → (if nonW (w, u) = true then 1 else 0) = (if isW "left" (w, u) = true then 1 else 0) + (if isW "right" (w, u) = true then 1 else 0) + (if isW "pick" (w, u) = true then 1 else 0) + (if isW "put" (w, u) = true then 1 else 0) + (if isJ (w, u) = true then 1 else 0) := fun u hu => by
      subst hu
      rcases hs with e | e | e | e | e | e | e | e <;> subst e <;> decide +kernel
    have key : (if nonW (w, t) = true then 1 else 0) = (if isW "left" (w, t) = true then 1 else 0) + (if isW "right" (w, t) = true then 1 else 0) + (if isW "pick" (w, t) = true then 1 else 0) + (if isW "put" (w, t) = true then 1 else 0) + (if isJ (w, t) = true then 1 else 0) := key0 none rfl
    omega
theorem few_of {l : List Lk} (hc : ∀ s ∈ l, s.1 ∈ commands) (hl : l.length ≤ 7) (h4 : l.countP nonW ≤ 4) : FewOk l := by
  refine ⟨hl, ?_⟩
  by_cases c1 : ∀ s ∈ l, s.1 ≠ "left"
  · exact .inl c1
  by_cases c2 : ∀ s ∈ l, s.1 ≠ "right"
  · exact .inr (.inl c2)
  by_cases c3 : ∀ s ∈ l, s.1 ≠ "put"
  · exact .inr (.inr (.inl c3))
  by_cases c4 : ∀ s ∈ l, s.1 ≠ "pick"
  · exact .inr (.inr (.inr (.inl c4)))
  refine .inr (.inr (.inr (.inr ?_)))
  have some_ : ∀ w : Str, (¬ ∀ s ∈ l, s.1 ≠ w) → 0 < l.countP (isW w) := fun w c => by
    rw [List.countP_pos_iff]
    have : ∃ s ∈ l, s.1 = w := by
      refine Classical.byContradiction fun z => c fun s hs e => z ⟨s, hs, e⟩
    obtain ⟨s, hs, e⟩ := this
    exact ⟨s, hs, decide_eq_true e⟩
  have d1 := some_ _ c1
  have d2 := some_ _ c2
  have d3 := some_ _ c3
  have d4 := some_ _ c4
  rw [count_all l hc] at h4
  refine ⟨fun s hs hj => ?_, by omega, by omega, by omega⟩
  have : 0 < l.countP isJ := List.countP_pos_iff.mpr ⟨s, hs, decide_eq_true hj⟩
  omega
theorem few4 {l : List Lk} (h : StepsOk l) (h4 : l.length ≤ 4) : FewOk l := few_of h.cmd (by omega) (Nat.le_trans List.countP_le_length h4)
end SB

set_option maxHeartbeats 4000000
namespace SB
open PySem PySem.Spec PyProof.Rows L2
open TL (tl)
open Evl
/-! ### the plans with all starts; those with which no robot is stuck -/
def stP (P : Plm) (i j : Nat) : Plm := { P with a := i, b := j }
theorem stP_ok {P : Plm} (h : PlanOk P) {i j : Nat} (hi : i < P.bx.length) (hj : j < P.bx.length) (n : i ≠ j) : PlanOk (stP P i j) := ⟨h.lo, h.hi, h.most, hi, hj, n, h.k0, h.k1⟩
/-- a plan of which the bound is known, whatever the starts -/
structure FewPl (P : Plm) : Prop where
  c8 : P.bx.length ≤ 8
  f0 : FewOk P.l0
  f1 : FewOk P.l1
theorem LawPl.few {n : Nat} {P : Plm} (h : LawPl n P) (hn : n ≤ 4) : FewPl P := by
  have h0 := h.n0
  have h1 := h.n1
  exact ⟨h.c8, few4 h.ok.k0 (by omega), few4 h.ok.k1 (by omega)⟩
theorem FewPl.st {P : Plm} (h : FewPl P) (i j : Nat) : FewPl (stP P i j) := ⟨h.c8, h.f0, h.f1⟩
theorem FewPl.rep {P : Plm} (h : FewPl P) (ok : PlanOk P) : Repeats P 13000 := few_repeats ok h.c8 h.f0 h.f1
theorem FewPl.rep2 {P : Plm} (h : FewPl P) (ok : PlanOk P) : Repeats P 20000 := by
  obtain ⟨i, j, a, b, c⟩ := h.rep ok
  exact ⟨i, j, a, by omega, c⟩
/-- all pairs of different cells, ascending -/
def pairs (n : Nat) : List (Nat × Nat) := (List.range n).flatMap fun i => (List.range n).filterMap fun j => if i ≠ j then some (i, j) else none
theorem pairs_mem {n : Nat} {p : Nat × Nat} (h : p ∈ pairs n) : p.1 < n ∧ p.2 < n ∧ p.1 ≠ p.2 := by
  unfold pairs at h
  simp only [List.mem_flatMap, List.mem_range, List.mem_filterMap] at h
  obtain ⟨i, hi, j, hj, e⟩ := h
  split at e
  · cases e
    exact ⟨hi, hj, by assumption⟩
  · cases e
theorem pairs_len (n : Nat) : (pairs n).length ≤ n * n := by
  have key : ∀ k, ((List.range k).flatMap fun i => (List.range n).filterMap fun j => if i ≠ j then some (i, j) else none).length ≤ k * n := fun k => by
    induction k with
    | zero => exact Nat.zero_le _
    | succ k ih =>
      rw [List.range_succ, List.flatMap_append, List.length_append]
      simp only [List.flatMap_cons, List.flatMap_nil, List.append_nil]
      have h2 : ((List.range n).filterMap fun j => if k ≠ j then some (k, j) else none).length ≤ n := Nat.le_trans (List.length_filterMap_le _ _) (by rw [List.length_range]; exact Nat.le_refl _)
      rw [Nat.add_mul, Nat.one_mul]
      omega
  exact key n
def freeC (P : Plm) (b l : Nat) : Bool := !(stuckC P b l 0 || stuckC P b l 1)
noncomputable def freeP (P : Plm) : Bool := @decide (∃ b l, Cyc P b l ∧ freeC P b l = true) (Classical.propDecidable _)
theorem freeP_eq {P : Plm} {b l : Nat} (c : Cyc P b l) : freeP P = freeC P b l := by
  unfold freeP
  cases h : freeC P b l with
  | true => exact @decide_eq_true _ (Classical.propDecidable _) ⟨b, l, c, h⟩
  | false =>
    refine @decide_eq_false _ (Classical.propDecidable _) ?_
    rintro ⟨b', l', c', h'⟩
    obtain ⟨rfl, rfl⟩ := c.uniq c'
    rw [h] at h'
    cases h'
noncomputable def freeL (P : Plm) : List (Nat × Nat) := (pairs P.bx.length).filter fun p => freeP (stP P p.1 p.2)
def pairD (p : Nat × Nat) : PyData := .tuple [iD p.1, iD p.2]
def pairsD (l : List (Nat × Nat)) : List PyData := l.map pairD
section
variable {m : Fm} {K : PySem.W.Frag} {Γ : List En} {te : TE} {tz : TS} {po : Po} {φ : FP} {g : TG}
theorem eg_any {bs : List Bool} (h : EG m Γ te (LstF K (bs.map fun b => Dd K (.bool b)))) : EG m Γ (tCB (rAny K) (tCons te tNil)) (Dd K (.bool (bs.any id))) := fun F H σ E Q q => h F H σ E _ fun v F1 H1 x1 E1 ⟨p, vs, e, hs, al⟩ => by
  subst e
  have ev : vs = bs.map V.bl := by
    exact al_bls al
  exact ⟨p, bs, rfl, by rw [← ev]; exact sq_of (E1.fh _ _ hs), q _ F1 H1 x1 E1 (Dq.bl _)⟩
/-- list(range(n)) -/
theorem eg_listRg {n : Nat} (h : EG m Γ te (Dd K (iD n))) (hn : n ≤ 100000) : EG m Γ (tLstRg (tRg1 te)) (Dd K (.list (intsD (List.range n)))) := eg_eoD fun F H σ E Q q =>
  h F H σ E _ fun v F1 H1 x1 E1 p1 => ⟨(n : Int), dd_int p1, .of_le (by omega) (by omega) (by omega) (by omega), fun p hp => by
    refine eo_new (R := OwL ((intsD (List.range n)).map (Dd K))) (o := .lst (rgV 0 (n : Int))) E1 hp (Ex.new hp) upd_same ⟨_, rfl, ?_⟩ fun p o F2 H2 x2 E2 nf hp' => q p o F2 H2 (x1.trans x2) E2 nf (back_none x1 hp')
    unfold rgV intsD
    rw [show ((n : Int) - 0).toNat = n by omega]
    generalize List.range n = l
    induction l with
    | nil => exact .nil
    | cons a l ih =>
      refine .cons ?_ ih
      show (Dd K (iD a)).p F1 (V.int (0 + (a : Int)))
      rw [show (0 : Int) + (a : Int) = (a : Int) from by omega]
      exact Dq.int _⟩
/-- a target for one of many -/
theorem q_asgTE {α : Type} {S : α → Prop} {f : α → FP} (h : EG m Γ te (FP.ex S f)) (k : ∀ a, S a → ∃ Γ', TGo m Γ g (f a) Γ' ∧ SG m Γ' tz po) : SG m Γ (tSeq (tAsg te g) tz) po := fun F H σ E D q =>
  h F H σ E _ fun v F1 H1 x E1 ⟨a, ha, p⟩ => by
    obtain ⟨Γ', ht, hk⟩ := k a ha
    exact ht F1 H1 σ E1 v p _ fun σ' F' H' x2 E2 => hk F' H' σ' E2 D (q.mono (x.f.trans x2))
end
end SB

set_option maxHeartbeats 4000000
namespace SB
open PySem PySem.Spec PyProof.Rows L2
open TL (tl)
open Evl
variable {P : Program} {w : World} {K : PySem.W.Frag} {mg : Str → Option Value} {base : Heap}


def BxF (bx : List Nat) : FP := ⟨fun F v => ∃ bl, v = .ref bl ∧ F bl = some (.lst (bx.map fun (n : Nat) => V.int n)), fun e ⟨bl, h1, h2⟩ => ⟨bl, h1, e _ _ h2⟩⟩
def SsF (l0 l1 : List Lk) : FP := ⟨fun F v => ∃ st s0 s1 w0 w1, v = .ref st ∧ F st = some (.tup [.ref s0, .ref s1]) ∧ F s0 = some (.lst w0) ∧ F s1 = some (.lst w1) ∧ All (LkAt F) w0 l0 ∧ All (LkAt F) w1 l1, fun e ⟨st, s0, s1, w0, w1, h1, h2, h3, h4, h5, h6⟩ => ⟨st, s0, s1, w0, w1, h1, e _ _ h2, e _ _ h3, e _ _ h4, h5.imp fun v x r => r.ex e, h6.imp fun v x r => r.ex e⟩⟩
def PhStarts (K : PySem.W.Frag) (as : List En) (ψ : FP) : Prop := ∃ Pl, PlanOk Pl ∧ as = [.fx (PlF K Pl)] ∧ ψ = LstF K ((pairs Pl.bx.length).map fun p => PlF K (stP Pl p.1 p.2))
def PhFree (K : PySem.W.Frag) (as : List En) (ψ : FP) : Prop := ∃ Pl, PlanOk Pl ∧ Repeats Pl 20000 ∧ as = [.fx (PlF K Pl)] ∧ ψ = Dd K (.bool (freeP Pl))
def PhFreesO (K : PySem.W.Frag) (as : List En) (R : OP) : Prop := ∃ z Pl, Txts z Pl ∧ FewPl Pl ∧ as = [.fx (Dd K (.str z))] ∧ R = OwL ((pairsD (freeL Pl)).map (Dd K))
def PhFrees (K : PySem.W.Frag) (as : List En) (ψ : FP) : Prop := ∃ z Pl, Txts z Pl ∧ FewPl Pl ∧ as = [.fx (Dd K (.str z))] ∧ ψ = Dd K (.list (pairsD (freeL Pl)))
section
variable {m : Fm} {K : PySem.W.Frag} {Γ : List En} {te t1 t2 t3 : TE} {XE : XK} {Pl : Plm}
theorem eg_pfBx (h : EG m Γ te (PlF K Pl)) (hc : Cls K (He.ga K "Plan")) (hn : NoAttr K (He.ga K "Plan") "boxes") : EG m Γ (tFld K te "boxes") (BxF Pl.bx) := eg_fld h fun F v ⟨x, dx, bl, ft, st, s0, s1, w0, w1, e, h⟩ =>
  ⟨x, _, dx, _, .ref bl, e, h.ob, hc, hn, rfl, bl, rfl, h.bxs⟩
theorem eg_pfFc (h : EG m Γ te (PlF K Pl)) (hc : Cls K (He.ga K "Plan")) (hn : NoAttr K (He.ga K "Plan") "first_cells") : EG m Γ (tFld K te "first_cells") (Dd K (pairD (Pl.a, Pl.b))) := eg_fld h fun F v ⟨x, dx, bl, ft, st, s0, s1, w0, w1, e, h⟩ =>
  ⟨x, _, dx, _, .ref ft, e, h.ob, hc, hn, rfl, .tup h.fc (.cons (.int _) (.cons (.int _) .nil))⟩
theorem eg_pfSs (h : EG m Γ te (PlF K Pl)) (hc : Cls K (He.ga K "Plan")) (hn : NoAttr K (He.ga K "Plan") "steps") : EG m Γ (tFld K te "steps") (SsF Pl.l0 Pl.l1) := eg_fld h fun F v ⟨x, dx, bl, ft, st, s0, s1, w0, w1, e, h⟩ =>
  ⟨x, _, dx, _, .ref st, e, h.ob, hc, hn, rfl, st, s0, s1, w0, w1, rfl, h.ss, h.h0, h.h1, h.k0, h.k1⟩
theorem bx_dd {bx : List Nat} : (BxF bx).le (Dd K (.list (intsD bx))) := fun {F v} ⟨bl, e, h⟩ => by
  subst e
  exact .lst h (dqAll_ints bx)
end

theorem ok_plans_with_all_starts (T : Txt K mg) : FnR P w K mg base (L2.CX P w) 3 (He.ga K "plans_with_all_starts") (spG (PhStarts K)) := by
  have G_Plan_init := ok_Plan_init (P := P) (w := w) (base := base) T
  obtain ⟨fd, F⟩ := T.F_plans_with_all_starts
  have B : Binds K fd P_plans_with_all_starts [] := F.bindsN fun _ _ _ _ _ _ us hl => match us, hl with | [_], _ => rfl
  refine fnR_of F B (F.ok sc_plans_with_all_starts (fun vs H Q E h => spG_len h fun as ψ hΦ => ?_) (fun cdv A outer s H vs Q E hr h => ?_))
  · obtain ⟨Pl, hP, rfl, rfl⟩ := hΦ
    rfl
  · have hu := hu_of hr
    have hu64 := hr.units
    refine ⟨_, (pss_cons (ps_set (i := 1) sc_plans_with_all_starts.nd rfl (by first | exact Or.inl rfl | exact Or.inr rfl) (pe_listRg (by rfl) (by rfl) T.b_list (prg_1 (by rfl) T.b_range (pe_callB call_len_seq (by rfl) T.b_len (by decide +kernel) (pa_cons (pe_fld (pv 0) rfl) pa_nil)))))
        (pss_cons (ps_setLc2 (i := 2) (own := [("first", 3), ("second", 4)]) (vs1 := [4]) (wi1 := iList K (tVar 1)) (te := tTup (tCons (tVar 3) (tCons (tVar 4) tNil))) rfl sc_plans_with_all_starts.nd rfl rfl (sw_true rfl rfl rfl (by decide +kernel)) (pi_list (pv 1)) (blkOk_by (own := [("first", 3), ("second", 4)]) (N := N_plans_with_all_starts) (sc := defScope s_plans_with_all_starts) (by decide +kernel)) (by decide) (fun _ _ _ _ _ => by exact pg_name (i := 3) sc_plans_with_all_starts.nd rfl (by first | exact Or.inl rfl | exact Or.inr rfl)) (fun _ _ _ _ _ => by exact pts_nil) (fun _ _ _ _ _ => by exact (pi_list (pv 1))) (fun _ _ _ _ _ => by exact pg_name (i := 4) sc_plans_with_all_starts.nd rfl (by first | exact Or.inl rfl | exact Or.inr rfl)) (fun _ _ _ _ _ => by exact (pts_one (pt_cmpR op_ne (pv 3) (pv 4) (nomark _)))) (fun _ _ _ _ _ => by exact (pe_tup (pa_cons (pv 3) (pa_cons (pv 4) pa_nil)))))
        (pss_one (ps_ret (pe_lc (te := StX.tMakeR (He.ga K "Plan") (spInit (He.ga K "Plan") g_Plan) E0 (tCons (tFld K (tVar 0) "boxes") (tCons (tVar 5) (tCons (tFld K (tVar 0) "steps") tNil)))) (own := [("start", 5)]) rfl sc_plans_with_all_starts.nd (pi_list (pv 2)) (blkOk_by (own := [("start", 5)]) (N := N_plans_with_all_starts) (sc := defScope s_plans_with_all_starts) (by decide +kernel)) (fun _ _ _ _ _ => by exact pg_name (i := 5) sc_plans_with_all_starts.nd rfl (by first | exact Or.inl rfl | exact Or.inr rfl)) (fun _ _ _ _ _ => by exact pts_nil) (fun _ _ _ _ _ => by exact (StX.pe_makeR T.k_Plan G_Plan_init (hr.mono (by decide)) (by rfl) T.g_Plan passL (pa_cons (pe_fld (pv 0) rfl) (pa_cons (pv 5) (pa_cons (pe_fld (pv 0) rfl) pa_nil)))))))))), ?_⟩
    refine spG_body h fun m as ψ hΦ => ?_
    obtain ⟨Pl, hP, rfl, rfl⟩ := hΦ
    have pl_ : ∀ {Γ : List En}, Γ[0]? = some (.fx (PlF K Pl)) → EG m Γ (tVar 0) (PlF K Pl) := fun h => eg_var h
    have hhi := hP.hi
    refine q_asgG (eg_listRg (n := Pl.bx.length) (eg_is (eg_lenL (ds := intsD Pl.bx) (eg_le (eg_pfBx (pl_ rfl) T.c_Plan T.n_Plan_boxes) bx_dd)) (by unfold intsD; rw [List.length_map]; rfl)) (by omega)) ?_
    have nums_ : ∀ {Γ : List En}, Γ[1]? = some (.fx (Dd K (.list (intsD (List.range Pl.bx.length))))) → IT m Γ (iList K (tVar 1)) ((intsD (List.range Pl.bx.length)).map (Dd K)) := fun h => it_list (eg_le (eg_var h) dp_lst)
    have nl : ((intsD (List.range Pl.bx.length)).map (Dd K)).length = Pl.bx.length := by unfold intsD; simp
    have nat_ : ∀ {i : Nat} {φ : FP}, ((intsD (List.range Pl.bx.length)).map (Dd K))[i]? = some φ → i < Pl.bx.length ∧ φ = Dd K (iD i) := fun {i φ} h => by
      have hi := (List.getElem?_eq_some_iff.mp h).1
      rw [nl] at hi
      unfold intsD at h
      rw [List.map_map, List.getElem?_map, List.getElem?_range hi] at h
      exact ⟨hi, (Option.some.inj h).symm⟩
    refine q_asgG (φ := LstF K ((pairsD (pairs Pl.bx.length)).map (Dd K))) (eg_eo (eo_le (eo_lc2 (nums_ rfl) (by decide) (fun i hi R => ?_) Pl.bx.length (fun i j => if i ≠ j then some (Dd K (pairD (i, j))) else none) (by rw [nl]; have := Nat.mul_le_mul hhi hhi; omega) (fun i φ hi => ?_)) ?_)) ?_
    · have : i = 3 ∨ i = 4 := by simpa using hi
      rcases this with rfl | rfl <;> (intro h; cases h)
    · obtain ⟨hi, rfl⟩ := nat_ hi
      refine ⟨_, _, tv_name (by simp), nl, nums_ rfl, fun j hj R => ?_, fun j φ1 hj => ?_⟩
      · have : j = 3 ∨ j = 4 := by simpa using hj
        rcases this with rfl | rfl <;> (intro h; cases h)
      · obtain ⟨hj, rfl⟩ := nat_ hj
        refine ⟨_, tv_name (by simp), bg_is (bg_test (eg_ne (K := K) (d1 := iD i) (d2 := iD j) (eg_var rfl) (eg_var rfl) rfl rfl rfl)) ?_, fun χ hχ => ?_⟩
        · by_cases c : i = j
          · subst c
            simp
          · have : ¬ V.int (i : Int) = V.int (j : Int) := fun h => c (by injection h with h; omega)
            simp [c, this]
        · have : χ = Dd K (pairD (i, j)) := by
            split at hχ
            · exact (Option.some.inj hχ).symm
            · cases hχ
          subst this
          exact eg_tupD (K := K) (ds := [iD i, iD j]) (ag_cons (eg_var rfl) (ag_cons (eg_var rfl) ag_nil)) (Nat.le_of_ble_eq_true rfl)
    · intro F p o h
      rw [nl] at h
      have e : (pairsD (pairs Pl.bx.length)).map (Dd K) = (List.range Pl.bx.length).flatMap fun i => (List.range Pl.bx.length).filterMap fun j => if i ≠ j then some (Dd K (pairD (i, j))) else none := by
        unfold pairsD pairs
        rw [List.map_map, List.map_flatMap]
        congr 1
        funext i
        rw [List.map_filterMap]
        congr 1
        funext j
        split <;> rfl
      rw [e]
      exact h
    refine sg_ret (eg_eo (K := K) ?_)
    have hpl := pairs_len Pl.bx.length
    have hnn : Pl.bx.length * Pl.bx.length ≤ 144 := by have := Nat.mul_le_mul hhi hhi; omega
    have hlen : ((pairsD (pairs Pl.bx.length)).map (Dd K)).length = (pairs Pl.bx.length).length := by unfold pairsD; simp
    have h := eo_lcM (te := StX.tMakeR (He.ga K "Plan") (spInit (He.ga K "Plan") g_Plan) E0 (tCons (tFld K (tVar 0) "boxes") (tCons (tVar 5) (tCons (tFld K (tVar 0) "steps") tNil)))) (g := gName 5) (vs := [5]) (m := m) (Γ := ((pads N_plans_with_all_starts.length [.fx (PlF K Pl)]).set 1 (.fx (Dd K (.list (intsD (List.range Pl.bx.length)))))).set 2 (.fx (LstF K ((pairsD (pairs Pl.bx.length)).map (Dd K))))) (it_list (K := K) (te := tVar 2) (eg_var rfl)) (by rw [hlen]; omega) (fun i hi R => by
      have : i = 5 := by simpa using hi
      subst this
      intro h
      cases h) (fun i => PlF K (stP Pl ((pairs Pl.bx.length).getD i (0, 0)).1 ((pairs Pl.bx.length).getD i (0, 0)).2)) fun i φ hi => by
        have hil : i < (pairs Pl.bx.length).length := by rw [← hlen]; exact (List.getElem?_eq_some_iff.mp hi).1
        have : φ = Dd K (pairD ((pairs Pl.bx.length).getD i (0, 0))) := by
          unfold pairsD at hi
          rw [List.map_map, List.getElem?_map, List.getElem?_eq_getElem hil] at hi
          rw [List.getD_eq_getElem?_getD, List.getElem?_eq_getElem hil]
          exact (Option.some.inj hi).symm
        subst this
        generalize (pairs Pl.bx.length).getD i (0, 0) = pr
        obtain ⟨a, b⟩ := pr
        refine ⟨_, tv_name (by simp), ?_⟩
        exact eg_makeO (ag_cons (eg_pfBx (pl_ rfl) T.c_Plan T.n_Plan_boxes) (ag_cons (φ := Dd K (pairD (a, b))) (eg_var rfl) (ag_cons (eg_pfSs (pl_ rfl) T.c_Plan T.n_Plan_steps) ag_nil))) fun F H vs e p x dx nx ndx ne Q q => by
          obtain ⟨v1, v2, v3, rfl, ⟨bl, e1, p1⟩, p2, ⟨st, s0, s1, w0, w1, e3, p3, p4, p5, p6, p7⟩⟩ := ags3 p
          subst e1 e3
          have p2 : Dq K F v2 (.tuple [iD a, iD b]) := p2
          cases p2 with
          | tup hf af =>
          refine ⟨x, dx, _, _, rfl, rfl, upd_same, fun H' hx hk => q H' (fun b o h => ?_) fun F' y1 y2 => ?_⟩
          · have nb : b ≠ x := fun z => by rw [z, nx] at h; cases h
            have nd : b ≠ dx := fun z => by rw [z, ndx] at h; cases h
            exact hk b o (by rw [upd_ne nb, upd_ne nd]; exact h) nb
          · have af' := ints_of (l := [a, b]) af
            rw [af'] at hf
            exact ⟨x, dx, _, _, _, _, _, _, _, rfl, y2 _ _ (nw_of nx hx), y1 _ _ p1, y1 _ _ hf, y1 _ _ p3, y1 _ _ p4, y1 _ _ p5, p6.imp fun v s r => r.ex y1, p7.imp fun v s r => r.ex y1⟩
    rw [hlen] at h
    have e : (pairs Pl.bx.length).map (fun p => PlF K (stP Pl p.1 p.2)) = (List.range (pairs Pl.bx.length).length).map fun i => PlF K (stP Pl ((pairs Pl.bx.length).getD i (0, 0)).1 ((pairs Pl.bx.length).getD i (0, 0)).2) := by
      apply List.ext_getElem?
      intro i
      rw [List.getElem?_map, List.getElem?_map]
      by_cases c : i < (pairs Pl.bx.length).length
      · rw [List.getElem?_range c, List.getElem?_eq_getElem c]
        simp only [Option.map_some]
        rw [List.getD_eq_getElem?_getD, List.getElem?_eq_getElem c]
        rfl
      · rw [List.getElem?_eq_none (by omega), List.getElem?_eq_none (by rw [List.length_range]; omega)]
        rfl
    rw [e]
    exact h

theorem ok_is_free (T : Txt K mg) : FnR P w K mg base (L2.CX P w) 7 (He.ga K "is_free") (spG (PhFree K)) := by
  have G_Run_init := ok_Run_init (P := P) (w := w) (base := base) T
  have G_Run_is_stuck := ok_Run_is_stuck (P := P) (w := w) (base := base) T
  obtain ⟨fd, F⟩ := T.F_is_free
  have B : Binds K fd P_is_free [] := F.bindsN fun _ _ _ _ _ _ us hl => match us, hl with | [_], _ => rfl
  refine fnR_of F B (F.ok sc_is_free (fun vs H Q E h => spG_len h fun as ψ hΦ => ?_) (fun cdv A outer s H vs Q E hr h => ?_))
  · obtain ⟨Pl, hP, hR, rfl, rfl⟩ := hΦ
    rfl
  · have hu := hu_of hr
    have hu64 := hr.units
    refine ⟨_, (pss_cons (ps_set (i := 1) sc_is_free.nd rfl (by first | exact Or.inl rfl | exact Or.inr rfl) (StX.pe_makeR T.k_Run G_Run_init (hr.mono (by decide)) (by rfl) T.g_Run px (pa_cons (pv 0) pa_nil)))
        (pss_one (ps_ret (pe_not (pe_callB (cr_any rfl) (by rfl) T.b_any (by decide +kernel) (pa_cons (pe_lc (te := (tMethR (He.ga K "Run") "is_stuck" (spG (PhStuck K (He.ga K "Run"))) E0 (tVar 1) (tCons (tVar 2) tNil))) (own := [("robot", 2)]) rfl sc_is_free.nd (pi_tup (pe_gr T.g_ROBOTS)) (blkOk_by (own := [("robot", 2)]) (N := N_is_free) (sc := defScope s_is_free) (by decide +kernel)) (fun _ _ _ _ _ => by exact pg_name (i := 2) sc_is_free.nd rfl (by first | exact Or.inl rfl | exact Or.inr rfl)) (fun _ _ _ _ _ => by exact pts_nil) (fun _ _ _ _ _ => by exact (pe_methR (pv 1) T.c_Run T.m_Run_is_stuck G_Run_is_stuck (hr.mono (by decide)) passL (pa_cons (pv 2) pa_nil)))) pa_nil)))))), ?_⟩
    refine spG_body h fun m as ψ hΦ => ?_
    obtain ⟨Pl, hP, hR, rfl, rfl⟩ := hΦ
    obtain ⟨b, l, hc, hbl⟩ := hR.cyc
    rw [freeP_eq hc]
    refine q_asgG (eg_runC (Pl := Pl) (b := b) (l := l) (eg_var rfl) hP hR hc) ?_
    refine sg_ret (eg_is (eg_notV (a := [stuckC Pl b l 0, stuckC Pl b l 1].any id) (eg_any (K := K) (bs := [stuckC Pl b l 0, stuckC Pl b l 1]) (eg_le (eg_lcN (K := K) (n := 2) (fun r => .bool (stuckC Pl b l r)) (it_tupC (K := K) (T.t_ROBOTS) (robots_al (K := K))) rfl (by decide) (fun i hi R => ?_) fun i φ hi hφ => ?_) dp_lst))) ?_)
    · have : i = 2 := by simpa using hi
      subst this
      intro h
      cases h
    · have : φ = Dd K (iD i) := by
        match i, hi with
        | 0, _ => exact (Option.some.inj hφ).symm
        | 1, _ => exact (Option.some.inj hφ).symm
      subst this
      exact ⟨_, tv_name (by simp), eg_meth (φ := RunF K (He.ga K "Run") Pl b l) (eg_var rfl) (run_ins (by decide +kernel)) (ag_cons (eg_var (φ := Dd K (iD i)) rfl) ag_nil) ⟨Pl, b, l, i, hc, hbl, hi, rfl, rfl⟩⟩
    · unfold freeC
      simp

theorem ok_free_starts (T : Txt K mg) : FnR P w K mg base (L2.CX P w) 9 (He.ga K "free_starts") (spG (PhFrees K)) := by
  have G_plans_with_all_starts := ok_plans_with_all_starts (P := P) (w := w) (base := base) T
  have KP_plans_with_all_starts : PySem.W.keepIn K (.ref (He.ga K "plans_with_all_starts")) = true := by
    obtain ⟨_, F⟩ := T.F_plans_with_all_starts
    exact F.kp
  have G_read_plan := ok_read_plan (P := P) (w := w) (base := base) T
  have KP_read_plan : PySem.W.keepIn K (.ref (He.ga K "read_plan")) = true := by
    obtain ⟨_, F⟩ := T.F_read_plan
    exact F.kp
  have G_is_free := ok_is_free (P := P) (w := w) (base := base) T
  have KP_is_free : PySem.W.keepIn K (.ref (He.ga K "is_free")) = true := by
    obtain ⟨_, F⟩ := T.F_is_free
    exact F.kp
  obtain ⟨fd, F⟩ := T.F_free_starts
  have B : Binds K fd P_free_starts [] := F.bindsN fun _ _ _ _ _ _ us hl => match us, hl with | [_], _ => rfl
  refine fnR_of F B (F.ok sc_free_starts (fun vs H Q E h => spG_len h fun as ψ hΦ => ?_) (fun cdv A outer s H vs Q E hr h => ?_))
  · obtain ⟨z, Pl, hz, hf, rfl, rfl⟩ := hΦ
    rfl
  · have hu := hu_of hr
    have hu64 := hr.units
    refine ⟨_, (pss_cons (ps_set (i := 1) sc_free_starts.nd rfl (by first | exact Or.inl rfl | exact Or.inr rfl) (pe_callR G_plans_with_all_starts (hr.mono (by decide)) T.g_plans_with_all_starts KP_plans_with_all_starts px (pa_cons (pe_callR G_read_plan (hr.mono (by decide)) T.g_read_plan KP_read_plan px (pa_cons (pv 0) pa_nil)) pa_nil)))
        (pss_one (ps_ret (pe_lc (te := (tFld K (tVar 2) "first_cells")) (tt := (tB (tCallR (spG (PhFree K)) E0 (tCons (tVar 2) tNil)))) (own := [("other", 2)]) rfl sc_free_starts.nd (pi_list (pv 1)) (blkOk_by (own := [("other", 2)]) (N := N_free_starts) (sc := defScope s_free_starts) (by decide +kernel)) (fun _ _ _ _ _ => by exact pg_name (i := 2) sc_free_starts.nd rfl (by first | exact Or.inl rfl | exact Or.inr rfl)) (fun _ _ _ _ _ => by exact (pts_one (pt_val (pe_callR G_is_free (hr.mono (by decide)) T.g_is_free KP_is_free passL (pa_cons (pv 2) pa_nil))))) (fun _ _ _ _ _ => by exact (pe_fld (pv 2) rfl)))))), ?_⟩
    refine spG_body h fun m as ψ hΦ => ?_
    obtain ⟨z, Pl, hz, hf, rfl, rfl⟩ := hΦ
    have hhi := hz.ok.hi
    have hpl := pairs_len Pl.bx.length
    have hnn : Pl.bx.length * Pl.bx.length ≤ 144 := by have := Nat.mul_le_mul hhi hhi; omega
    have free_ : ∀ {Γ : List En}, Γ[1]? = some (.fx (LstF K ((pairs Pl.bx.length).map fun p => PlF K (stP Pl p.1 p.2)))) → 2 < Γ.length → (∀ R, Γ[2]? ≠ some (.oo R)) → EO m Γ (tLc (iList K (tVar 1)) (gName 2) (tB (tCallR (spG (PhFree K)) E0 (tCons (tVar 2) tNil))) (tFld K (tVar 2) "first_cells") [2]) (OwL ((pairsD (freeL Pl)).map (Dd K))) := fun {Γ} h1 hl hno => by
      have h := eo_lc (m := m) (Γ := Γ) (te := tFld K (tVar 2) "first_cells") (t := tB (tCallR (spG (PhFree K)) E0 (tCons (tVar 2) tNil))) (g := gName 2) (vs := [2]) (it_list (K := K) (te := tVar 1) (eg_var h1)) (by rw [List.length_map]; omega) (fun i hi R => by
        have : i = 2 := by simpa using hi
        subst this
        exact hno R) (fun i => if freeP (stP Pl ((pairs Pl.bx.length).getD i (0, 0)).1 ((pairs Pl.bx.length).getD i (0, 0)).2) = true then some (Dd K (pairD ((pairs Pl.bx.length).getD i (0, 0)))) else none) fun i φ hi => by
          rw [List.getElem?_map] at hi
          obtain ⟨pr, hpr, rfl⟩ := Option.map_eq_some_iff.mp hi
          rw [List.getD_eq_getElem?_getD, hpr]
          obtain ⟨a, b⟩ := pr
          obtain ⟨h1, h2, h3⟩ := pairs_mem (List.mem_of_getElem? hpr)
          have ok' := stP_ok hz.ok h1 h2 h3
          have hs : ((wipeG Γ [2]).set 2 (.fx (PlF K (stP Pl a b))))[2]? = some (.fx (PlF K (stP Pl a b))) := List.getElem?_set_self (by show _ < (Γ.set 2 .un).length; rw [List.length_set]; exact hl)
          refine ⟨_, tv_name (by simp), bg_is (bg_B (eg_call (ag_cons (eg_var (φ := PlF K (stP Pl a b)) hs) ag_nil) ⟨_, ok', (hf.st a b).rep2 ok', rfl, rfl⟩)) ?_, fun χ hχ => ?_⟩
          · show freeP (stP Pl a b) = (if freeP (stP Pl a b) = true then some (Dd K (pairD (a, b))) else none).isSome
            cases freeP (stP Pl a b) <;> rfl
          · have : χ = Dd K (pairD (a, b)) := by
              have hχ : (if freeP (stP Pl a b) = true then some (Dd K (pairD (a, b))) else none) = some χ := hχ
              split at hχ
              · exact (Option.some.inj hχ).symm
              · cases hχ
            subst this
            exact eg_pfFc (Pl := stP Pl a b) (eg_var hs) T.c_Plan T.n_Plan_first_cells
      have e : (List.range ((pairs Pl.bx.length).map fun p => PlF K (stP Pl p.1 p.2)).length).filterMap (fun i => if freeP (stP Pl ((pairs Pl.bx.length).getD i (0, 0)).1 ((pairs Pl.bx.length).getD i (0, 0)).2) = true then some (Dd K (pairD ((pairs Pl.bx.length).getD i (0, 0)))) else none) = (pairsD (freeL Pl)).map (Dd K) := by
        rw [List.length_map]
        unfold pairsD freeL
        generalize pairs Pl.bx.length = l
        rw [List.map_map, ← List.filterMap_eq_map, List.filterMap_filter]
        induction l with
        | nil => rfl
        | cons a l ih =>
          rw [List.length_cons, List.range_succ_eq_map, List.filterMap_cons, List.filterMap_cons, List.filterMap_map, ← ih]
          rfl
      rw [e] at h
      exact h
    
    refine q_asgG (eg_call (Φ := PhStarts K) (ag_cons (eg_readP (z := z) (Pl := Pl) (eg_var rfl) hz) ag_nil) ⟨Pl, hz.ok, rfl, rfl⟩) ?_
    exact sg_ret (eg_eoD (free_ rfl (Nat.le_of_ble_eq_true rfl) (fun R h => by cases h)))

theorem ok_free_startsO (T : Txt K mg) : FnR P w K mg base (L2.CX P w) 9 (He.ga K "free_starts") (spGO (PhFreesO K)) := by
  have G_plans_with_all_starts := ok_plans_with_all_starts (P := P) (w := w) (base := base) T
  have KP_plans_with_all_starts : PySem.W.keepIn K (.ref (He.ga K "plans_with_all_starts")) = true := by
    obtain ⟨_, F⟩ := T.F_plans_with_all_starts
    exact F.kp
  have G_read_plan := ok_read_plan (P := P) (w := w) (base := base) T
  have KP_read_plan : PySem.W.keepIn K (.ref (He.ga K "read_plan")) = true := by
    obtain ⟨_, F⟩ := T.F_read_plan
    exact F.kp
  have G_is_free := ok_is_free (P := P) (w := w) (base := base) T
  have KP_is_free : PySem.W.keepIn K (.ref (He.ga K "is_free")) = true := by
    obtain ⟨_, F⟩ := T.F_is_free
    exact F.kp
  obtain ⟨fd, F⟩ := T.F_free_starts
  have B : Binds K fd P_free_starts [] := F.bindsN fun _ _ _ _ _ _ us hl => match us, hl with | [_], _ => rfl
  refine fnR_of F B (F.ok sc_free_starts (fun vs H Q E h => spGO_len h fun as R hΦ => ?_) (fun cdv A outer s H vs Q E hr h => ?_))
  · obtain ⟨z, Pl, hz, hf, rfl, rfl⟩ := hΦ
    rfl
  · have hu := hu_of hr
    have hu64 := hr.units
    refine ⟨_, (pss_cons (ps_set (i := 1) sc_free_starts.nd rfl (by first | exact Or.inl rfl | exact Or.inr rfl) (pe_callR G_plans_with_all_starts (hr.mono (by decide)) T.g_plans_with_all_starts KP_plans_with_all_starts px (pa_cons (pe_callR G_read_plan (hr.mono (by decide)) T.g_read_plan KP_read_plan px (pa_cons (pv 0) pa_nil)) pa_nil)))
        (pss_one (ps_ret (pe_lc (te := (tFld K (tVar 2) "first_cells")) (tt := (tB (tCallR (spG (PhFree K)) E0 (tCons (tVar 2) tNil)))) (own := [("other", 2)]) rfl sc_free_starts.nd (pi_list (pv 1)) (blkOk_by (own := [("other", 2)]) (N := N_free_starts) (sc := defScope s_free_starts) (by decide +kernel)) (fun _ _ _ _ _ => by exact pg_name (i := 2) sc_free_starts.nd rfl (by first | exact Or.inl rfl | exact Or.inr rfl)) (fun _ _ _ _ _ => by exact (pts_one (pt_val (pe_callR G_is_free (hr.mono (by decide)) T.g_is_free KP_is_free passL (pa_cons (pv 2) pa_nil))))) (fun _ _ _ _ _ => by exact (pe_fld (pv 2) rfl)))))), ?_⟩
    refine spGO_body h fun m as R hΦ => ?_
    obtain ⟨z, Pl, hz, hf, rfl, rfl⟩ := hΦ
    have hhi := hz.ok.hi
    have hpl := pairs_len Pl.bx.length
    have hnn : Pl.bx.length * Pl.bx.length ≤ 144 := by have := Nat.mul_le_mul hhi hhi; omega
    have free_ : ∀ {Γ : List En}, Γ[1]? = some (.fx (LstF K ((pairs Pl.bx.length).map fun p => PlF K (stP Pl p.1 p.2)))) → 2 < Γ.length → (∀ R, Γ[2]? ≠ some (.oo R)) → EO m Γ (tLc (iList K (tVar 1)) (gName 2) (tB (tCallR (spG (PhFree K)) E0 (tCons (tVar 2) tNil))) (tFld K (tVar 2) "first_cells") [2]) (OwL ((pairsD (freeL Pl)).map (Dd K))) := fun {Γ} h1 hl hno => by
      have h := eo_lc (m := m) (Γ := Γ) (te := tFld K (tVar 2) "first_cells") (t := tB (tCallR (spG (PhFree K)) E0 (tCons (tVar 2) tNil))) (g := gName 2) (vs := [2]) (it_list (K := K) (te := tVar 1) (eg_var h1)) (by rw [List.length_map]; omega) (fun i hi R => by
        have : i = 2 := by simpa using hi
        subst this
        exact hno R) (fun i => if freeP (stP Pl ((pairs Pl.bx.length).getD i (0, 0)).1 ((pairs Pl.bx.length).getD i (0, 0)).2) = true then some (Dd K (pairD ((pairs Pl.bx.length).getD i (0, 0)))) else none) fun i φ hi => by
          rw [List.getElem?_map] at hi
          obtain ⟨pr, hpr, rfl⟩ := Option.map_eq_some_iff.mp hi
          rw [List.getD_eq_getElem?_getD, hpr]
          obtain ⟨a, b⟩ := pr
          obtain ⟨h1, h2, h3⟩ := pairs_mem (List.mem_of_getElem? hpr)
          have ok' := stP_ok hz.ok h1 h2 h3
          have hs : ((wipeG Γ [2]).set 2 (.fx (PlF K (stP Pl a b))))[2]? = some (.fx (PlF K (stP Pl a b))) := List.getElem?_set_self (by show _ < (Γ.set 2 .un).length; rw [List.length_set]; exact hl)
          refine ⟨_, tv_name (by simp), bg_is (bg_B (eg_call (ag_cons (eg_var (φ := PlF K (stP Pl a b)) hs) ag_nil) ⟨_, ok', (hf.st a b).rep2 ok', rfl, rfl⟩)) ?_, fun χ hχ => ?_⟩
          · show freeP (stP Pl a b) = (if freeP (stP Pl a b) = true then some (Dd K (pairD (a, b))) else none).isSome
            cases freeP (stP Pl a b) <;> rfl
          · have : χ = Dd K (pairD (a, b)) := by
              have hχ : (if freeP (stP Pl a b) = true then some (Dd K (pairD (a, b))) else none) = some χ := hχ
              split at hχ
              · exact (Option.some.inj hχ).symm
              · cases hχ
            subst this
            exact eg_pfFc (Pl := stP Pl a b) (eg_var hs) T.c_Plan T.n_Plan_first_cells
      have e : (List.range ((pairs Pl.bx.length).map fun p => PlF K (stP Pl p.1 p.2)).length).filterMap (fun i => if freeP (stP Pl ((pairs Pl.bx.length).getD i (0, 0)).1 ((pairs Pl.bx.length).getD i (0, 0)).2) = true then some (Dd K (pairD ((pairs Pl.bx.length).getD i (0, 0)))) else none) = (pairsD (freeL Pl)).map (Dd K) := by
        rw [List.length_map]
        unfold pairsD freeL
        generalize pairs Pl.bx.length = l
        rw [List.map_map, ← List.filterMap_eq_map, List.filterMap_filter]
        induction l with
        | nil => rfl
        | cons a l ih =>
          rw [List.length_cons, List.range_succ_eq_map, List.filterMap_cons, List.filterMap_cons, List.filterMap_map, ← ih]
          rfl
      rw [e] at h
      exact h
    
    refine so_seq (N := fun Γ' => Γ' = [.fx (Dd K (.str z)), .fx (LstF K ((pairs Pl.bx.length).map fun p => PlF K (stP Pl p.1 p.2))), .un]) (s_asgG (eg_call (Φ := PhStarts K) (ag_cons (eg_readP (z := z) (Pl := Pl) (eg_var rfl) hz) ag_nil) ⟨Pl, hz.ok, rfl, rfl⟩) rfl) fun Γ' h => ?_
    subst h
    exact so_ret (free_ rfl (Nat.le_of_ble_eq_true rfl) (fun R h => by cases h))

end SB

set_option maxHeartbeats 4000000
namespace SB
open PySem PySem.Spec PyProof.Rows L2
open TL (tl)
open Evl
variable {P : Program} {w : World} {K : PySem.W.Frag} {mg : Str → Option Value} {base : Heap}


def PhRobotsO (K : PySem.W.Frag) (as : List En) (R : OP) : Prop := ∃ z Pl b l, Txts z Pl ∧ Cyc Pl b l ∧ as = [.fx (Dd K (.str z))] ∧ R = OwL ((intsD (stuckL Pl b l)).map (Dd K))
def PhLStuck (K : PySem.W.Frag) (as : List En) (ψ : FP) : Prop := ∃ Pl b l, PlanOk Pl ∧ Cyc Pl b l ∧ b + l ≤ 20000 ∧ as = [.fx (Dd K (.tuple [.list (daysD Pl (b + l)), iD b]))] ∧ ψ = Dd K (.list (intsD (stuckL Pl b l)))
def onesD (Pl : Plm) (r : Nat) (wd : Str) (n : Nat) : List PyData := ((List.range n).map (onesI Pl r wd)).map .int
def PhLSum (K : PySem.W.Frag) (as : List En) (ψ : FP) : Prop := ∃ Pl b l r wd t, Cyc Pl b l ∧ b + l ≤ 20000 ∧ t ≤ 1000000000000000000 ∧ as = [.fx (Dd K (.tuple [.list (daysD Pl (b + l)), iD b])), .fx (Dd K (.list (onesD Pl r wd (b + l)))), .fx (Dd K (iD t))] ∧ ψ = Dd K (iD (countM Pl r wd t))


theorem ok__law_stuck (T : Txt K mg) : FnR P w K mg base (L2.CX P w) 1 (He.ga K "_law_stuck") (spG (PhLStuck K)) := by
  obtain ⟨fd, F⟩ := T.F__law_stuck
  have B : Binds K fd P__law_stuck [] := F.bindsN fun _ _ _ _ _ _ us hl => match us, hl with | [_], _ => rfl
  refine fnR_of F B (F.ok sc__law_stuck (fun vs H Q E h => spG_len h fun as ψ hΦ => ?_) (fun cdv A outer s H vs Q E hr h => ?_))
  · obtain ⟨Pl, b, l, hP, hc, hbl, rfl, rfl⟩ := hΦ
    rfl
  · have hu := hu_of hr
    have hu64 := hr.units
    refine ⟨_, (pss_cons (ps_set (i := 1) sc__law_stuck.nd rfl (by first | exact Or.inl rfl | exact Or.inr rfl) (pe_slice sl_list (pe_ix ix_tup (pv 0) pe_int (fun _ _ => rfl)) (po_some (pe_ix ix_tup (pv 0) pe_int (fun _ _ => rfl))) po_none))
        (pss_one (ps_ret (pe_lc (te := (tVar 2)) (tt := (tTest (tOp (rEqD K) (tLc (iList K (tVar 1)) (gName 3) (tTest (tOp rNe (tOp (rIxT K) (tOp (rIxT K) (tVar 3) (tC (.int 0))) (tVar 2)) (tC (.str "blocked")))) (tVar 3) [3]) (tLst tNil)))) (own := [("_law_number", 2)]) rfl sc__law_stuck.nd (pi_range1 (by rfl) T.b_range (pa_cons pe_int pa_nil)) (blkOk_by (own := [("_law_number", 2)]) (N := N__law_stuck) (sc := defScope s__law_stuck) (by decide +kernel)) (fun _ _ _ _ _ => by exact pg_name (i := 2) sc__law_stuck.nd rfl (by first | exact Or.inl rfl | exact Or.inr rfl)) (fun _ _ _ _ _ => by exact (pts_one (pt_cmpR (op_eqD hr.units) (pe_lc (te := (tVar 3)) (tt := (tTest (tOp rNe (tOp (rIxT K) (tOp (rIxT K) (tVar 3) (tC (.int 0))) (tVar 2)) (tC (.str "blocked"))))) (own := [("_law_one", 3)]) rfl sc__law_stuck.nd (pi_list (pv 1)) (blkOk_by (own := [("_law_one", 3)]) (N := N__law_stuck) (sc := { kind := ScopeKind.function, names := [(".0", NameKind.local), ("_law_number", NameKind.cell), ("_law_late", NameKind.cell)], isGenerator := false, isCoroutine := false }) (by decide +kernel)) (fun _ _ _ _ _ => by exact pg_name (i := 3) sc__law_stuck.nd rfl (by first | exact Or.inl rfl | exact Or.inr rfl)) (fun _ _ _ _ _ => by exact (pts_one (pt_cmpR op_ne (pe_ix ix_tup (pe_ix ix_tup (pv 3) pe_int (fun _ _ => rfl)) (pv 2) (fun _ _ => rfl)) pe_str (nomark _)))) (fun _ _ _ _ _ => by exact (pv 3))) (pe_lst pa_nil) (nomark _)))) (fun _ _ _ _ _ => by exact (pv 2)))))), ?_⟩
    refine spG_body h fun m as ψ hΦ => ?_
    obtain ⟨Pl, b, l, hP, hc, hbl, rfl, rfl⟩ := hΦ
    have hp := hc.pos
    have c0 : ∀ {Γ : List En}, Γ[0]? = some (.fx (Dd K (.tuple [.list (daysD Pl (b + l)), iD b]))) → EG m Γ (tOp (rIxT K) (tVar 0) (tC (.int 0))) (Dd K (.list (daysD Pl (b + l)))) := fun h => eg_ixT (eg_var h) eg_int rfl
    have c1 : ∀ {Γ : List En}, Γ[0]? = some (.fx (Dd K (.tuple [.list (daysD Pl (b + l)), iD b]))) → EG m Γ (tOp (rIxT K) (tVar 0) (tC (.int 1))) (Dd K (.int (b : Int))) := fun h => eg_ixT (eg_var h) eg_int rfl
    
    refine q_asgG (φ := Dd K (.list ((List.range l).map fun i => dayD Pl (b + i)))) (eg_is (eg_slL (c0 rfl) (og_int (c1 rfl)) og_no) (by rw [cutLo (by rw [days_len]; omega)]; unfold daysD; rw [rangeD])) ?_
    refine sg_ret (eg_is (eg_lcF (K := K) (n := 2) (fun r => stuckC Pl b l r) iD (it_rng1 (K := K) (n := 2) (ag_cons eg_int ag_nil) (by omega)) rngF_len (by omega) (fun i hi R => ?_) fun r φ hr2 hφ => ?_) rfl)
    · have : i = 2 := by simpa using hi
      subst this
      intro h
      cases h
    · obtain ⟨_, rfl⟩ := rngF_of hφ
      rw [show (0 : Int) + (r : Int) = (r : Int) from by omega]
      refine ⟨_, tv_name (by simp), bg_is (bg_test (eg_eqD (eg_lcF (K := K) (n := l) (fun i => !decide (wordOf Pl r (b + i) = "blocked")) (fun i => dayD Pl (b + i)) (it_list (K := K) (φs := ((List.range l).map fun i => dayD Pl (b + i)).map (Dd K)) (eg_le (eg_var rfl) dp_lst)) (by simp) (by omega) (fun i hi R => ?_) fun i φ hi hφ => ?_) (eg_lstD (K := K) (ds := []) ag_nil (by decide)) (days_shaped hP fun d hd => ?_) (by decide +kernel))) ?_, fun _ => eg_var rfl⟩
      · have : i = 3 := by simpa using hi
        subst this
        intro h
        cases h
      · have : φ = Dd K (dayD Pl (b + i)) := by
          rw [List.map_map, List.getElem?_map, List.getElem?_range hi] at hφ
          exact (Option.some.inj hφ).symm
        subst this
        refine ⟨_, tv_name (by simp), bg_test (eg_neS (a := wordOf Pl r (b + i)) (eg_ixT (ds := [.str (wordsAt Pl (b + i)).1, .str (wordsAt Pl (b + i)).2]) (i := (r : Int)) (eg_ixT (ds := [wordsD (wordsAt Pl (b + i)), sitD (sitAt Pl (b + i + 1))]) (i := 0) (eg_var rfl) eg_int rfl) (eg_var rfl) (at_nat' ?_)) eg_str), fun _ => eg_var rfl⟩
        rcases (show r = 0 ∨ r = 1 by omega) with h | h <;> rw [h] <;> rfl
      · obtain ⟨i, _, rfl⟩ := List.mem_map.mp hd
        exact ⟨_, rfl⟩
      · unfold stuckC
        generalize List.range l = rs
        show PyData.eqvAll _ [] = _
        induction rs with
        | nil => rfl
        | cons a rs ih =>
          cases q : decide (wordOf Pl r (b + a) = "blocked") with
          | true => simpa [q] using ih
          | false => simp [q, PyData.eqvAll]


end SB

set_option maxHeartbeats 4000000
namespace SB
open PySem PySem.Spec PyProof.Rows L2
open TL (tl)
open Evl
variable {P : Program} {w : World} {K : PySem.W.Frag} {mg : Str → Option Value} {base : Heap}


def PhCycleN (K : PySem.W.Frag) (as : List En) (ψ : FP) : Prop := ∃ (P : Plm), PlanOk P ∧ Repeats P 20000 ∧ as = [.fx (Dd K (planD P))] ∧ ψ = FP.ex (fun c : Nat × Nat => Cyc P c.1 c.2 ∧ c.1 + c.2 ≤ 20000) fun c => Dd K (.tuple [.list (daysD P (c.1 + c.2)), iD c.1])

theorem ok__law_cycle (T : Txt K mg) : FnR P w K mg base (L2.CX P w) 3 (He.ga K "_law_cycle") (spG (PhCycleN K)) := by
  have G__law_empty := ok__law_empty (P := P) (w := w) (base := base) T
  have KP__law_empty : PySem.W.keepIn K (.ref (He.ga K "_law_empty")) = true := by
    obtain ⟨_, F⟩ := T.F__law_empty
    exact F.kp
  have G__law_tick := ok__law_tick (P := P) (w := w) (base := base) T
  have KP__law_tick : PySem.W.keepIn K (.ref (He.ga K "_law_tick")) = true := by
    obtain ⟨_, F⟩ := T.F__law_tick
    exact F.kp
  obtain ⟨fd, F⟩ := T.F__law_cycle
  have B : Binds K fd P__law_cycle [] := F.bindsN fun _ _ _ _ _ _ us hl => match us, hl with | [_], _ => rfl
  refine fnR_of F B (F.ok sc__law_cycle (fun vs H Q E h => spG_len h fun as ψ hΦ => ?_) (fun cdv A outer s H vs Q E hr h => ?_))
  · obtain ⟨Pl, hP, hR, rfl, rfl⟩ := hΦ
    rfl
  · have hu := hu_of hr
    have hu64 := hr.units
    refine ⟨_, (pss_cons (ps_par3 (i := 1) (j := 2) (l := 3) rfl sc__law_cycle.nd rfl rfl rfl (by decide) (by decide) (by decide) rfl rfl rfl (pa_cons (pe_callR G__law_empty (hr.mono (by decide)) T.g__law_empty KP__law_empty px (pa_cons (pv 0) pa_nil)) (pa_cons (pe_lst pa_nil) (pa_cons pe_nnew pa_nil))) rfl)
        (pss_one (ps_while (passes_of rfl) (pt_val pe_bl) (pss_cons (ps_set (i := 4) sc__law_cycle.nd rfl (by first | exact Or.inl rfl | exact Or.inr rfl) (pe_callTy call_tuple_of (by rfl) T.b_tuple (by decide +kernel) (pa_cons (pe_lc (te := (tCB (fun xs H Q => ∃ p ys, xs = [V.ref p] ∧ ((SqL K H p ys ∧ ∀ l, H l = none → Q (V.ref l) (upd H l (.tup ys))) ∨ (SqT K H p ys ∧ Q (V.ref p) H))) (tCons (tVar 5) tNil))) (own := [("_law_part", 5)]) rfl sc__law_cycle.nd (pi_list (pv 1)) (blkOk_by (own := [("_law_part", 5)]) (N := N__law_cycle) (sc := defScope s__law_cycle) (by decide +kernel)) (fun _ _ _ _ _ => by exact pg_name (i := 5) sc__law_cycle.nd rfl (by first | exact Or.inl rfl | exact Or.inr rfl)) (fun _ _ _ _ _ => by exact pts_nil) (fun _ _ _ _ _ => by exact (pe_callTy call_tuple_of (by rfl) T.b_tuple (by decide +kernel) (pa_cons (pv 5) pa_nil)))) pa_nil)))
        (pss_cons (ps_if (pt_cmp (pc_nin hu64 (pv 4) (pv 3))) (pss_one (ps_ret (pe_tup (pa_cons (pv 2) (pa_cons (pe_nget hu64 (pv 3) (pv 4) (fun _ _ => rfl)) pa_nil))))) pss_nil)
        (pss_cons (ps_asg (pe_callB call_len_seq (by rfl) T.b_len (by decide +kernel) (pa_cons (pv 2) pa_nil)) (pg_sub (pv 3) (pv 4) (set_nd hu64)))
        (pss_cons (ps_expr (pe_bm PySem.F.plainAttrs_list PySem.F.slot_list_append PySem.F.type_list_append mt_append (pv 2) (pa_cons (pe_callR G__law_tick (hr.mono (by decide)) T.g__law_tick KP__law_tick px (pa_cons (pv 0) (pa_cons (pv 1) pa_nil))) pa_nil)))
        (pss_one (ps_set (i := 1) sc__law_cycle.nd rfl (by first | exact Or.inl rfl | exact Or.inr rfl) (pe_ix ix_tup (pe_ix ix_list (pv 2) (pe_un un_neg pe_int) (fun _ _ => rfl)) pe_int (fun _ _ => rfl))))))))))), ?_⟩
    refine spG_body h fun m as ψ hΦ => ?_
    obtain ⟨Pl, hP, hR, rfl, rfl⟩ := hΦ
    have key : ∀ {Γ : List En} {S : Sit}, Γ[1]? = some (.fx (Dd K (sitD S))) → (∀ R, Γ[5]? ≠ some (.oo R)) → 5 < Γ.length → EG m Γ (tCB (fun xs H Q => ∃ p ys, xs = [V.ref p] ∧ ((SqL K H p ys ∧ ∀ l, H l = none → Q (V.ref l) (upd H l (.tup ys))) ∨ (SqT K H p ys ∧ Q (V.ref p) H))) (tCons (tLc (iList K (tVar 1)) (gName 5) tYes (tCB (fun xs H Q => ∃ p ys, xs = [V.ref p] ∧ ((SqL K H p ys ∧ ∀ l, H l = none → Q (V.ref l) (upd H l (.tup ys))) ∨ (SqT K H p ys ∧ Q (V.ref p) H))) (tCons (tVar 5) tNil)) [5]) tNil)) (Dd K (keyL S)) := fun {Γ S} h1 h2 h3 => by
      refine eg_tupL (ds := [.tuple (intsD S.cs), .tuple (intsD S.ns), .tuple (boolsD S.hs), .tuple (intsD S.bx)]) (eg_eoD (eo_le (eo_lcM (it_list (φs := [Dd K (.list (intsD S.cs)), Dd K (.list (intsD S.ns)), Dd K (.list (boolsD S.hs)), Dd K (.list (intsD S.bx))]) (eg_le (eg_var h1) dp_lst)) (Nat.le_of_ble_eq_true rfl) (fun i hi R => ?_) (fun i => [Dd K (.tuple (intsD S.cs)), Dd K (.tuple (intsD S.ns)), Dd K (.tuple (boolsD S.hs)), Dd K (.tuple (intsD S.bx))].getD i (Dd K .none)) (fun i φ hi => ?_)) (fun h => h)))
      · rw [List.mem_singleton.mp hi]
        exact h2 R
      · refine ⟨_, tv_name (List.mem_singleton_self _), ?_⟩
        have hs : ((wipeG Γ [5]).set 5 (.fx φ))[5]? = some (.fx φ) := List.getElem?_set_self (by show _ < (Γ.set 5 .un).length; rw [List.length_set]; exact h3)
        match i, hi with
        | 0, hi => cases hi; exact eg_tupL (eg_var hs)
        | 1, hi => cases hi; exact eg_tupL (eg_var hs)
        | 2, hi => cases hi; exact eg_tupL (eg_var hs)
        | 3, hi => cases hi; exact eg_tupL (eg_var hs)
    
    let kv (n : Nat) := kvsOf keyL (fun i => Dd K (iD i)) Pl n
    refine q_par3M (am_fx (φ := Dd K (sitD (sitAt Pl 0))) (eg_call (ag_cons (eg_var rfl) ag_nil) ⟨Pl, rfl, rfl⟩) (am_oo (R := OwL ((daysD Pl 0).map (Dd K))) (eo_lst (φs := (daysD Pl 0).map (Dd K)) ag_nil (Nat.zero_le _)) (am_oo (eo_nnew (P := P) (w := w) (K := K)) am_nil))) ?_
    refine s_whileG (fun k Γ' => ∃ n, k = 20000 - n ∧ n ≤ 20000 ∧ (∀ i j, i < j → j < n → sitAt Pl i ≠ sitAt Pl j) ∧ ∃ x y, (∀ R, y ≠ .oo R) ∧ Γ' = [.fx (Dd K (planD Pl)), .fx (Dd K (sitD (sitAt Pl n))), .oo (OwL ((daysD Pl n).map (Dd K))), .oo (NdO P w K (kv n)), x, y]) (fun _ => False) 20000 ⟨0, rfl, by omega, fun i j h h2 => absurd h2 (by omega), .un, .un, (fun R h => by cases h), rfl⟩ (fun k Γ' hI => ?_) (fun _ h => h.elim)
    obtain ⟨n, rfl, hn, hd, x, y, hy, rfl⟩ := hI
    refine ⟨(· = true), bg_b0 (K := K) eg_bl, fun _ => ?_, fun h => by cases h⟩
    refine q_asgG (key rfl (fun R h => hy R (Option.some.inj h)) (Nat.le_of_ble_eq_true rfl)) ?_
    refine q_whenG (bg_test (eg_nin (i := 3) rfl (eg_var rfl) (keyL_ok _))) (fun hb => ?_) (fun hb => ?_)
    · have hb : (lookD (kv n) (keyL (sitAt Pl n))).isSome = true := hb.symm
      obtain ⟨j, h1, h2, h3, h4⟩ := look_some hb
      have hj := keyL_inj h2
      refine sg_seq (N := fun _ => False) (sg_frzD (i := 2) rfl (sg_ret (eg_le (eg_tupD (K := K) (ds := [.list (daysD Pl n), iD j]) (ag_cons (eg_var rfl) (ag_cons (eg_nget (i := 3) rfl (eg_var rfl) (keyL_ok _) h3) ag_nil)) (Nat.le_of_ble_eq_true rfl)) (fun {F v} p => ⟨(j, n - j), ⟨⟨by show 0 < n - j; omega, fun a b hab hb => hd a b hab (by have : b < j + (n - j) := hb; omega), ?_⟩, by show j + (n - j) ≤ 20000; omega⟩, ?_⟩)))) fun _ h => h.elim
      · show sitAt Pl (j + (n - j)) = sitAt Pl j
        rw [show j + (n - j) = n by omega, hj]
      · show (Dd K (.tuple [.list (daysD Pl (j + (n - j))), iD j])).p F v
        rw [show j + (n - j) = n by omega]
        exact p
    · have hb : (lookD (kv n) (keyL (sitAt Pl n))).isSome = false := hb.symm
      have hno : lookD (kv n) (keyL (sitAt Pl n)) = none := by simpa using hb
      have hnew : ∀ i, i < n → sitAt Pl i ≠ sitAt Pl n := lookD_ne hno
      have hn2 : n < 20000 := by
        obtain ⟨i, j, hij, hj, e⟩ := hR
        by_cases c : n < 20000
        · exact c
        · exfalso
          by_cases c2 : j < n
          · exact hd i j hij c2 e
          · have : j = n := by omega
            subst this
            exact hnew i hij e
      refine q_asgT (φ := Dd K (iD n)) (eg_is (eg_lenO (k := 2) rfl) (by rw [List.length_map, days_len]; rfl)) (to_nset (i := 3) rfl (eg_var rfl) (keyL_ok _) hno (by rw [kvs_len]; omega)) ?_
      refine q_appG (i := 2) (φ := Dd K (dayD Pl n)) rfl (eg_call (ag_cons (eg_var rfl) (ag_cons (eg_var rfl) ag_nil)) ⟨Pl, sitAt Pl n, hP, sitAt_ok hP n, rfl, rfl⟩) (by rw [List.length_map, days_len]; omega) ?_
      refine s_asgG (φ := Dd K (sitD (sitAt Pl (n + 1)))) (eg_ixT (ds := [wordsD (wordsAt Pl n), sitD (sitAt Pl (n + 1))]) (eg_ixO (k := 2) (φs := (daysD Pl (n + 1)).map (Dd K)) (φ := Dd K (dayD Pl n)) (by rw [days_snoc, List.map_append]; rfl) (eg_is (eg_un eg_int) rfl) days_last) eg_int rfl) ⟨20000 - (n + 1), by omega, n + 1, rfl, by omega, fun i j hij hj => ?_, .fx (Dd K (keyL (sitAt Pl n))), y, hy, ?_⟩
      · by_cases c : j = n
        · subst c
          exact hnew i hij
        · exact hd i j hij (by omega)
      · show _ = [_, _, En.oo (OwL ((daysD Pl (n + 1)).map (Dd K))), En.oo (NdO P w K (kvsOf keyL (fun i => Dd K (iD i)) Pl (n + 1))), _, _]
        rw [kvs_snoc, days_snoc, List.map_append]
        rfl

end SB

set_option maxHeartbeats 4000000
namespace SB
open PySem PySem.Spec PyProof.Rows L2
open TL (tl)
open Evl
variable {P : Program} {w : World} {K : PySem.W.Frag} {mg : Str → Option Value} {base : Heap}


def PhCells (K : PySem.W.Frag) (as : List En) (ψ : FP) : Prop := ∃ z Pl t, Txts z Pl ∧ t ≤ 1000000000000000000 ∧ as = [.fx (Dd K (.str z)), .fx (Dd K (iD t))] ∧ ψ = Dd K (.tuple (intsD (sitAt Pl (t + 1)).cs))
def PhBoxes (K : PySem.W.Frag) (as : List En) (ψ : FP) : Prop := ∃ z Pl t, Txts z Pl ∧ t ≤ 1000000000000000000 ∧ as = [.fx (Dd K (.str z)), .fx (Dd K (iD t))] ∧ ψ = Dd K (.list (intsD (sitAt Pl (t + 1)).bx))
/-- the robots that hold a box -/
def holdsOf (S : Sit) : List Nat := (List.range S.hs.length).filter fun r => atB S.hs r
def PhHolding (K : PySem.W.Frag) (as : List En) (ψ : FP) : Prop := ∃ z Pl t, Txts z Pl ∧ t ≤ 1000000000000000000 ∧ as = [.fx (Dd K (.str z)), .fx (Dd K (iD t))] ∧ ψ = Dd K (.list (intsD (holdsOf (sitAt Pl (t + 1)))))




/-- the list is the caller's own -/
def PhBoxesO (K : PySem.W.Frag) (as : List En) (R : OP) : Prop := ∃ z Pl t, Txts z Pl ∧ t ≤ 1000000000000000000 ∧ as = [.fx (Dd K (.str z)), .fx (Dd K (iD t))] ∧ R = OwL ((intsD (sitAt Pl (t + 1)).bx).map (Dd K))



end SB

set_option maxHeartbeats 4000000
namespace SB
open PySem PySem.Spec PyProof.Rows L2
open TL (tl)
open Evl
variable {P : Program} {w : World} {K : PySem.W.Frag} {mg : Str → Option Value} {base : Heap}


def PhFind (K : PySem.W.Frag) (as : List En) (ψ : FP) : Prop := ∃ z Pl, Txts z Pl ∧ as = [.fx (Dd K (.str z))] ∧ ψ = FP.ex (fun c : Nat × Nat => Cyc Pl c.1 c.2 ∧ c.1 + c.2 ≤ 20000) fun c => Dd K (.tuple [iD c.1, iD c.2])
def PhSome (K : PySem.W.Frag) (as : List En) (ψ : FP) : Prop := as = [.dr] ∧ ψ = FP.ex (fun n : Nat => n ≤ 1000000000000000000) fun n => Dd K (iD n)
def PhPlace (K : PySem.W.Frag) (as : List En) (ψ : FP) : Prop := ∃ Pl b l t, Cyc Pl b l ∧ as = [.fx (Dd K (.tuple [.list (daysD Pl (b + l)), iD b])), .fx (Dd K (iD t))] ∧ ψ = Dd K (iD (keptM b l t))




end SB

set_option maxHeartbeats 4000000
namespace SB
open PySem PySem.Spec PyProof.Rows L2
open TL (tl)
open Evl
/-- free starts with the first cell i, the second below k -/
noncomputable def rowL (P : Plm) (i k : Nat) : List (Nat × Nat) := (List.range k).filterMap fun j => if i ≠ j ∧ freeP (stP P i j) = true then some (i, j) else none
/-- free starts with the first cell below i -/
noncomputable def accL (P : Plm) (i : Nat) : List (Nat × Nat) := (List.range i).flatMap fun i => rowL P i P.bx.length
theorem accL_succ (P : Plm) (i : Nat) : accL P (i + 1) = accL P i ++ rowL P i P.bx.length := by
  unfold accL
  rw [List.range_succ, List.flatMap_append]
  simp
theorem rowL_succ (P : Plm) (i k : Nat) : rowL P i (k + 1) = rowL P i k ++ (if i ≠ k ∧ freeP (stP P i k) = true then [(i, k)] else []) := by
  unfold rowL
  rw [List.range_succ, List.filterMap_append]
  congr 1
  simp only [List.filterMap_cons, List.filterMap_nil]
  split <;> rename_i h <;> split at h <;> simp_all
theorem rowL_len (P : Plm) (i k : Nat) : (rowL P i k).length ≤ k := Nat.le_trans (List.length_filterMap_le _ _) (by rw [List.length_range]; exact Nat.le_refl _)
theorem accL_len (P : Plm) : ∀ i, (accL P i).length ≤ i * P.bx.length
  | 0 => Nat.zero_le _
  | i + 1 => by
    rw [accL_succ, List.length_append, Nat.add_mul, Nat.one_mul]
    have := accL_len P i
    have := rowL_len P i P.bx.length
    omega
theorem accL_all (P : Plm) : accL P P.bx.length = freeL P := by
  unfold accL freeL pairs
  rw [List.filter_flatMap]
  congr 1
  funext i
  unfold rowL
  rw [List.filter_filterMap]
  congr 1
  funext j
  by_cases c : i = j
  · simp [c]
  · cases h : freeP (stP P i j) <;> simp [c, h, Option.filter]
theorem stuck_none {P : Plm} {b l : Nat} : PyData.eqv (.list (intsD (stuckL P b l))) (.list []) = freeC P b l := by
  unfold stuckL freeC
  cases h0 : stuckC P b l 0 <;> cases h1 : stuckC P b l 1 <;> simp [h0, h1] <;> rfl
theorem stuck_shaped {P : Plm} {b l : Nat} : SeqAt.shaped (.list (intsD (stuckL P b l))) = true := by
  unfold stuckL
  cases h0 : stuckC P b l 0 <;> cases h1 : stuckC P b l 1 <;> simp [h0, h1] <;> rfl
theorem cyc_exact {K : PySem.W.Frag} {P : Plm} {b l : Nat} (hc : Cyc P b l) {n : Nat} : (FP.ex (fun c : Nat × Nat => Cyc P c.1 c.2 ∧ c.1 + c.2 ≤ n) fun c => Dd K (.tuple [.list (daysD P (c.1 + c.2)), iD c.1])).le (Dd K (.tuple [.list (daysD P (b + l)), iD b])) := fun {F v} ⟨⟨b', l'⟩, ⟨hc', _⟩, p⟩ => by
  obtain ⟨e1, e2⟩ := hc.uniq hc'
  subst e1 e2
  exact p
end SB

set_option maxHeartbeats 4000000
namespace SB
open PySem PySem.Spec PyProof.Rows L2
open TL (tl)
open Evl
section
variable {m : Fm} {K : PySem.W.Frag} {Γ Γ' : List En} {ta tb te : TE} {t : TA} {φ ψ : FP} {es : List En} {tA : TA} {XE : XK} {po : Po} {tz : TS}
/-- a call that is given lists of the caller's own, and gives a scalar -/
theorem eg_callH {Φ : List En → FP → Prop} {ds : List PyData} {sc : PyData} {u : V} (h : AH K m Γ tA ds) (hΦ : Φ (ds.map fun d => .fx (Dd K d)) (Dd K sc)) (hs : scD sc = some u) : EG m Γ (tCallR (spG Φ) XE tA) (Dd K sc) := fun F H σ E Q q => h F H σ E _ fun vs F1 H1 x1 E1 p1 => by
  have conv : ∀ {G : Hp} {m' : Fm} {vs : List V} {ds : List PyData}, DqAll K G vs ds → Ags m' G vs (ds.map fun d => .fx (Dd K d)) := by
    intro G m' vs ds h
    induction ds generalizing vs with
    | nil => cases h; exact .nil
    | cons d ds ih =>
      cases h with
      | cons a b => exact .cons a (ih b)
  refine ⟨⟨sans m H1, H1, none⟩, _, _, hΦ, rfl, conv p1, ⟨sans_le, Ex.refl _, fun p o a b => absurd (a.symm.trans b) (by simp), fun p o _ h => h, fun a e => (by cases e), rfl, fun i e q => (by simp at q), fun i j p R S _ q => (by simp at q)⟩, fun v F' H' σ' Γ' E' p => ?_⟩
  have ex : Ex H1 H' := fun p o h => E'.frame p o (fun e => by cases e) h
  rw [scD_v hs p]
  exact q u F1 H' (x1.grow ex) (E1.grow ex) (scD_p hs)
theorem ag_star {φs : List FP} {tr : TA} (h : EG m Γ te (LstF K φs)) (hr : AG m Γ tr es) : AG m Γ (StX.tStar K te tr) (φs.map .fx ++ es) := fun F H σ E Q q =>
  h F H σ E _ fun v F1 H1 x1 E1 ⟨p, vs, e, hp, al⟩ => ⟨p, vs, e, .inr (sq_of (E1.fh _ _ hp)), hr F1 H1 σ E1 _ fun ws F2 H2 x2 E2 p2 => by
    have conv : ∀ {vs : List V} {φs : List FP}, Al F2 vs φs → Ags m F2 (vs ++ ws) (φs.map .fx ++ es) := by
      intro vs φs h
      induction h with
      | nil => exact p2
      | cons r t ih => exact .cons r ih
    exact q _ F2 H2 (x1.trans x2) E2 (conv (al.mono x2.f))⟩
/-- the place of a text in a tuple of the program -/
theorem eg_tidx {a : Addr} {ys : List Str} {z : Str} (hc : ∀ H, SqT K H a (ys.map V.str)) (hn : ∃ o, K.lookup a = some o ∧ o.cls = .type "tuple" ∧ o.dict = none) (h : EG m Γ tb (Dd K (.str z))) (hz : z ∈ ys) : EG m Γ (tBM K "tuple" (fun x xs H Q => ∃ p, ∃ ys : List Str, ∃ z j, x = .ref p ∧ xs = [.str z] ∧ SqT K H p (ys.map V.str) ∧ ys[j]? = some z ∧ (∀ m, m < j → ys[m]? ≠ some z) ∧ Q (.int (j : Nat)) H) (tC (.ref a)) (tCons tb tNil)) (Dd K (iD (ys.idxOf z))) := fun F H σ E Q q => by
  refine ⟨Or.inr (Or.inl ⟨rfl, hn⟩), h F H σ E _ fun w F1 H1 x1 E1 p1 => ⟨a, ys, z, ys.idxOf z, rfl, by rw [dd_str p1], hc H1, ?_, fun m hm e => ?_, q _ F1 H1 x1 E1 (Dq.int _)⟩⟩
  · rw [List.getElem?_eq_getElem (List.idxOf_lt_length_iff.mpr hz), List.getElem_idxOf]
  · have h1 := List.getElem?_eq_some_iff.mp e
    obtain ⟨h2, h3⟩ := h1
    have := List.not_of_lt_findIdx (p := (· == z)) (xs := ys) (i := m) hm
    rw [h3] at this
    simp at this
theorem s_appG {i : Nat} {φs : List FP} (hi : Γ[i]? = some (.oo (OwL φs))) (h : EG m Γ te φ) (hz : φs.length < 100000) (k : po.nx (Γ.set i (.oo (OwL (φs ++ [φ]))))) : SG m Γ (tDrop (tBM K "list" rAppend (tVar i) (tCons te tNil))) po := fun F H σ E D q => q_appG (tz := tNext) (po := po) hi h hz (sg_next k) F H σ E D q
theorem walk_zipT {a b : Addr} {xs ys : List V} {n : Nat} (hn : n = min xs.length ys.length) : Walk (RZ.ItzT K a b) n (fun H => SqT K H a xs ∧ SqT K H b ys) (YPair (fun i => xs[i]?) (fun i => ys[i]?)) := by
  subst hn
  refine ⟨fun i _ hi q => ?_, fun _ q => ⟨xs, ys, q.1, q.2, by omega⟩, fun i H v H' _ q y => ?_⟩
  · have h1 : i < xs.length := by omega
    have h2 : i < ys.length := by omega
    exact ⟨xs, ys, xs[i], ys[i], q.1, q.2, by simp [h1], by simp [h2]⟩
  · obtain ⟨T, x, z, h1, h2, h3, h4, h5⟩ := y
    exact ⟨T, x, z, h1, h2, h3, h4 xs q.1, h5 ys q.2⟩
theorem it_zipTA {ta : TA} {φs ψs : List FP} (h : AG m Γ ta [.fx (TupF K φs), .fx (TupF K ψs)]) : IT m Γ (RZ.iZipA K ta) (zipF K φs ψs) := ⟨fun F H σ E R k => h F H σ E _ fun vs F1 H1 x E1 p => by
  obtain ⟨v, w, rfl, ⟨a, ws, e, hs, al⟩, ⟨a2, ws2, e2, hs2, al2⟩⟩ := ags2 p
  subst e e2
  refine ⟨a, a2, ws, ws2, rfl, .inr ⟨st_of (E1.fh _ _ hs), st_of (E1.fh _ _ hs2), k (RZ.ItzT K a a2) (fun H => SqT K H a ws ∧ SqT K H a2 ws2) (YPair (fun i => ws[i]?) (fun i => ws2[i]?)) F1 H1 x E1 (walk_zipT (by unfold zipF; rw [List.length_zipWith, al_len al, al_len al2])) (fun F' H' a b => ⟨st_of ((a.trans b) _ _ hs), st_of ((a.trans b) _ _ hs2)⟩) fun i χ x F' H2 H2' hi a b y => ?_⟩⟩
  obtain ⟨T, y, z, e1, e2, e3, e4, e5⟩ := y
  obtain ⟨φ, ψ, hφ, hψ, rfl⟩ := zipF_of hi
  obtain ⟨φ', h1, h2⟩ := al_getF al e4
  rw [hφ] at h1
  cases h1
  obtain ⟨ψ', h3, h4⟩ := al_getF al2 e5
  rw [hψ] at h3
  cases h3
  exact pair_new b (φ.mono a h2) (ψ.mono a h4) e1 e2 e3⟩
theorem q_extE {i : Nat} {φs ψs χs : List FP} (hi : Γ[i]? = some (.oo (OwL φs))) (h : EO m Γ te (OwL ψs)) (hz : φs.length + ψs.length < 100000) (e : φs ++ ψs = χs) (k : SG m (Γ.set i (.oo (OwL χs))) tz po) : SG m Γ (tSeq (tDrop (tBM K "list" rExtend (tVar i) (tCons te tNil))) tz) po := q_extG hi h hz (by rw [e]; exact k)
theorem q_appE {i : Nat} {φs χs : List FP} (hi : Γ[i]? = some (.oo (OwL φs))) (h : EG m Γ te φ) (hz : φs.length < 100000) (e : φs ++ [φ] = χs) (k : SG m (Γ.set i (.oo (OwL χs))) tz po) : SG m Γ (tSeq (tDrop (tBM K "list" rAppend (tVar i) (tCons te tNil))) tz) po := q_appG hi h hz (by rw [e]; exact k)
theorem s_appE {i : Nat} {φs χs : List FP} (hi : Γ[i]? = some (.oo (OwL φs))) (h : EG m Γ te φ) (hz : φs.length < 100000) (e : φs ++ [φ] = χs) (k : po.nx (Γ.set i (.oo (OwL χs)))) : SG m Γ (tDrop (tBM K "list" rAppend (tVar i) (tCons te tNil))) po := s_appG hi h hz (by rw [e]; exact k)
end
/-! ### the bytes of a plan -/
def stepCode (s : Lk) : List Nat := commands.idxOf s.1 :: s.2.toList
def stepsCode (l : List Lk) : List Nat := (l.map stepCode).flatten
def robCode (a : Nat) (l : List Lk) : List Nat := a :: l.length :: stepsCode l
def codeAt (P : Plm) (i : Nat) : List Nat := 83 :: P.bx.length :: P.bx ++ ((if 0 < i then robCode P.a P.l0 else []) ++ (if 1 < i then robCode P.b P.l1 else []))
def codeP (P : Plm) : List Nat := codeAt P 2 ++ [(codeAt P 2).sum % 256]
def cD (K : PySem.W.Frag) (l : List Nat) : List FP := (intsD l).map (Dd K)
theorem cD_app {K : PySem.W.Frag} (a b : List Nat) : cD K a ++ cD K b = cD K (a ++ b) := by
  unfold cD intsD
  rw [List.map_append, List.map_append]
theorem cD_len {K : PySem.W.Frag} (a : List Nat) : (cD K a).length = a.length := by
  unfold cD intsD
  rw [List.length_map, List.length_map]
theorem stepsCode_len : ∀ l : List Lk, (stepsCode l).length ≤ 2 * l.length
  | [] => Nat.le_refl _
  | s :: l => by
    have ih := stepsCode_len l
    unfold stepsCode at ih ⊢
    rw [List.map_cons, List.flatten_cons, List.length_append, List.length_cons]
    have : (stepCode s).length ≤ 2 := by
      unfold stepCode
      cases s.2 <;> simp
    omega
theorem stepsCode_take {l : List Lk} {j : Nat} {s : Lk} (h : l[j]? = some s) : stepsCode (l.take (j + 1)) = stepsCode (l.take j) ++ stepCode s := by
  unfold stepsCode
  rw [List.take_add_one, h, List.map_append, List.flatten_append]
  simp
theorem codeAt_len {P : Plm} (hP : PlanOk P) (i : Nat) : (codeAt P i).length ≤ 110 := by
  unfold codeAt robCode
  have h1 := hP.hi
  have h2 := hP.k0.hi
  have h3 := hP.k1.hi
  have h4 := stepsCode_len P.l0
  have h5 := stepsCode_len P.l1
  split <;> split <;> simp <;> omega
theorem sum_cast : ∀ l : List Nat, (l.map fun (n : Nat) => (n : Int)).sum = ((l.sum : Nat) : Int)
  | [] => rfl
  | a :: l => by
    rw [List.map_cons, List.sum_cons, sum_cast l, List.sum_cons]
    push_cast
    rfl
end SB

set_option maxHeartbeats 4000000
namespace SB
open PySem PySem.Spec PyProof.Rows L2
open TL (tl)
open Evl
variable {P : Program} {w : World} {K : PySem.W.Frag} {mg : Str → Option Value} {base : Heap}


theorem fits_pairs {n : Nat} {l : List (Nat × Nat)} (hl : l.length ≤ 1000) : fitsD (n + 3) (.list (pairsD l)) = true := fits_list (by unfold pairsD; rw [List.length_map]; exact hl) fun d hd => by
  obtain ⟨p, _, rfl⟩ := List.mem_map.mp hd
  rfl

theorem ok_law (T : Txt K mg) {fd : FuncData} (F : FunD K "law" "law" (defArgs s_law) (defBody s_law) (defScope s_law) [] [] (He.ga K "law") fd) : FnOk P w K mg base (L2.CX P w) 13 (He.ga K "law") fd P_law (spLaw K) := by
  have G__law_random := ok__law_random (P := P) (w := w) (base := base) T
  have KP__law_random : PySem.W.keepIn K (.ref (He.ga K "_law_random")) = true := by
    obtain ⟨_, F⟩ := T.F__law_random
    exact F.kp
  have G__law_plan := ok__law_plan (P := P) (w := w) (base := base) T
  have KP__law_plan : PySem.W.keepIn K (.ref (He.ga K "_law_plan")) = true := by
    obtain ⟨_, F⟩ := T.F__law_plan
    exact F.kp
  have G_free_starts := ok_free_startsO (P := P) (w := w) (base := base) T
  have KP_free_starts : PySem.W.keepIn K (.ref (He.ga K "free_starts")) = true := by
    obtain ⟨_, F⟩ := T.F_free_starts
    exact F.kp
  have G__law_text := ok__law_text (P := P) (w := w) (base := base) T
  have KP__law_text : PySem.W.keepIn K (.ref (He.ga K "_law_text")) = true := by
    obtain ⟨_, F⟩ := T.F__law_text
    exact F.kp
  have G__law_stuck := ok__law_stuck (P := P) (w := w) (base := base) T
  have KP__law_stuck : PySem.W.keepIn K (.ref (He.ga K "_law_stuck")) = true := by
    obtain ⟨_, F⟩ := T.F__law_stuck
    exact F.kp
  have G__law_cycle := ok__law_cycle (P := P) (w := w) (base := base) T
  have KP__law_cycle : PySem.W.keepIn K (.ref (He.ga K "_law_cycle")) = true := by
    obtain ⟨_, F⟩ := T.F__law_cycle
    exact F.kp
  have G__law_equal := ok__law_equal (P := P) (w := w) (base := base) T 3
  have KP__law_equal : PySem.W.keepIn K (.ref (He.ga K "_law_equal")) = true := by
    obtain ⟨_, F⟩ := T.F__law_equal
    exact F.kp
  refine (F.ok sc_law (fun vs H Q E h => ?_) (fun cdv A outer s H vs Q E hr h => ?_))
  · obtain ⟨sc, ns, rfl, _⟩ := h
    rfl
  · obtain ⟨sc, ns, rfl, hs, hl, k⟩ := h
    have hu := hu_of hr
    have hu64 := hr.units
    refine ⟨_, (pss_cons (ps_set (i := 1) sc_law.nd rfl (by first | exact Or.inl rfl | exact Or.inr rfl) (pe_callR G__law_random (hr.mono (by decide)) T.g__law_random KP__law_random px (pa_cons (pv 0) (pa_cons pe_int pa_nil))))
        (pss_cons (ps_for (passes_of rfl) rfl (pi_range1 (by rfl) T.b_range (pa_cons pe_int pa_nil)) (pg_name (i := 2) sc_law.nd rfl (by first | exact Or.inl rfl | exact Or.inr rfl)) (pss_cons (ps_asg (pe_callR G__law_plan (hr.mono (by decide)) T.g__law_plan KP__law_plan px (pa_cons (pv 1) (pa_cons pe_int pa_nil))) (pg_tup rfl (pgs_cons (pg_name (i := 3) sc_law.nd rfl (by first | exact Or.inl rfl | exact Or.inr rfl)) (pgs_cons (pg_name (i := 4) sc_law.nd rfl (by first | exact Or.inl rfl | exact Or.inr rfl)) (pgs_cons (pg_name (i := 5) sc_law.nd rfl (by first | exact Or.inl rfl | exact Or.inr rfl)) pgs_nil)))))
        (pss_cons (ps_set (i := 6) sc_law.nd rfl (by first | exact Or.inl rfl | exact Or.inr rfl) (pe_lst pa_nil))
        (pss_cons (ps_for (passes_of rfl) rfl (pi_range1 (by rfl) T.b_range (pa_cons (pe_callB call_len_seq (by rfl) T.b_len (by decide +kernel) (pa_cons (pv 3) pa_nil)) pa_nil)) (pg_name (i := 7) sc_law.nd rfl (by first | exact Or.inl rfl | exact Or.inr rfl)) (pss_one (ps_for (passes_of rfl) rfl (pi_range1 (by rfl) T.b_range (pa_cons (pe_callB call_len_seq (by rfl) T.b_len (by decide +kernel) (pa_cons (pv 3) pa_nil)) pa_nil)) (pg_name (i := 8) sc_law.nd rfl (by first | exact Or.inl rfl | exact Or.inr rfl)) (pss_one (ps_if (pw_and (pt_cmpR op_ne (pv 7) (pv 8) (nomark _)) (pw_and1 (pt_cmpR (op_eqD hr.units) (pe_callR G__law_stuck (hr.mono (by decide)) T.g__law_stuck KP__law_stuck px (pa_cons (pe_callR G__law_cycle (hr.mono (by decide)) T.g__law_cycle KP__law_cycle px (pa_cons (pe_tup (pa_cons (pv 3) (pa_cons (pe_tup (pa_cons (pv 7) (pa_cons (pv 8) pa_nil))) (pa_cons (pv 5) pa_nil)))) pa_nil)) pa_nil)) (pe_lst pa_nil) (nomark _)))).pt (pss_one (ps_expr (pe_bm PySem.F.plainAttrs_list PySem.F.slot_list_append PySem.F.type_list_append mt_append (pv 6) (pa_cons (pe_tup (pa_cons (pv 7) (pa_cons (pv 8) pa_nil))) pa_nil)))) pss_nil)))))
        (pss_cons (ps_set (i := 9) sc_law.nd rfl (by first | exact Or.inl rfl | exact Or.inr rfl) (pe_callR G_free_starts (hr.mono (by decide)) T.g_free_starts KP_free_starts px (pa_cons (pe_callR G__law_text (hr.mono (by decide)) T.g__law_text KP__law_text px (pa_cons (pe_tup (pa_cons (pv 3) (pa_cons (pv 4) (pa_cons (pv 5) pa_nil)))) pa_nil)) pa_nil)))
        (pss_cons (ps_if (pt_not (pt_val (pe_callR G__law_equal (hr.mono (by decide)) T.g__law_equal KP__law_equal px (pa_cons (pv 9) (pa_cons (pv 6) pa_nil))))) (pss_one (ps_ret pe_bl)) pss_nil)
        (pss_one (ps_expr (pe_bm PySem.F.plainAttrs_list PySem.F.slot_list_append PySem.F.type_list_append mt_append (pv 9) (pa_cons pe_int pa_nil))))))))))
        (pss_one (ps_ret pe_bl)))), ?_⟩
    refine law_start (n := 8) rfl hs hl k fun m => ?_
    refine q_forK (it_rng1 (K := K) (n := 2) (ag_cons eg_int ag_nil) (by omega)) (fun _ => [.un, .dr, .un, .un, .un, .un, .un, .un, .un, .un]) (by repeat (first | exact .nil | refine .cons (.inl rfl) ?_ | refine .cons (.inr rfl) ?_)) (fun i φ hi => ?_) (sg_ret eg_bl)
    refine ⟨_, to_name, ?_⟩
    refine q_asgTE (S := LawPl 4) (f := fun Pl => Dd K (planD Pl)) (eg_call (Φ := PhPlan K) (ag_dr rfl (ag_cons eg_int ag_nil)) ⟨4, by decide, by decide, rfl, rfl⟩) fun Pl hPl => ⟨_, to_le (to_tup (φs := [Dd K (.tuple (intsD Pl.bx)), Dd K (.tuple [iD Pl.a, iD Pl.b]), Dd K (.list [stepsD Pl.l0, stepsD Pl.l1])]) (tos_cons to_name (tos_cons to_name (tos_cons to_name tos_nil))) rfl) dp_tup, ?_⟩
    have hT := law_txts hPl
    have hok := hPl.ok
    have hf := hPl.few (by decide)
    have h8 := hPl.c8
    clear hi
    refine q_asgO (R := OwL ((pairsD (accL Pl 0)).map (Dd K))) (eo_lst (φs := []) ag_nil (by decide)) ?_
    have len_ : ∀ {Γ : List En}, Γ[3]? = some (.fx (Dd K (.tuple (intsD Pl.bx)))) → EG m Γ (tCB (rLenS K) (tCons (tVar 3) tNil)) (Dd K (.int (Pl.bx.length : Int))) := fun h => eg_is (eg_lenT (eg_var h)) (by unfold intsD; rw [List.length_map])
    have nat_ : ∀ i : Nat, (0 : Int) + (i : Int) = (i : Int) := fun i => by omega
    have al := accL_len Pl
    refine q_forK (it_rng1 (K := K) (n := Pl.bx.length) (ag_cons (len_ rfl) ag_nil) (by omega)) (fun i => [.un, .dr, .un, .fx (Dd K (.tuple (intsD Pl.bx))), .fx (Dd K (.tuple [iD Pl.a, iD Pl.b])), .fx (Dd K (.list [stepsD Pl.l0, stepsD Pl.l1])), .oo (OwL ((pairsD (accL Pl (i))).map (Dd K))), .un, .un, .un]) (by repeat (first | exact .nil | refine .cons (.inl rfl) ?_ | refine .cons (.inr rfl) ?_)) (fun i φ hi => ?_) ?_
    · obtain ⟨hi2, rfl⟩ := rngF_of hi
      rw [nat_]
      refine ⟨_, to_name, ?_⟩
      have al := al i
      have hm : i * Pl.bx.length ≤ 64 := Nat.mul_le_mul (show i ≤ 8 by omega) h8
      refine s_forK (it_rng1 (K := K) (n := Pl.bx.length) (ag_cons (len_ rfl) ag_nil) (by omega)) (fun j => [.un, .dr, .un, .fx (Dd K (.tuple (intsD Pl.bx))), .fx (Dd K (.tuple [iD Pl.a, iD Pl.b])), .fx (Dd K (.list [stepsD Pl.l0, stepsD Pl.l1])), .oo (OwL ((pairsD (accL Pl i ++ rowL Pl i (j))).map (Dd K))), .fx (Dd K (iD i)), .un, .un]) ?_ (fun j φ hj => ?_) (fun Γ' h => ?_)
      · rw [show rowL Pl i 0 = [] from rfl, List.append_nil]
        exact (by repeat (first | exact .nil | refine .cons (.inl rfl) ?_ | refine .cons (.inr rfl) ?_))
      · obtain ⟨hj2, rfl⟩ := rngF_of hj
        rw [nat_]
        refine ⟨_, to_name, ?_⟩
        have rl := rowL_len Pl i j
        refine s_whenG (P := (· = (!decide (i = j) && freeP (stP Pl i j)))) (bg_andV (bg_is (bg_test (eg_ne (K := K) (d1 := iD i) (d2 := iD j) (eg_var rfl) (eg_var rfl) rfl rfl rfl)) ?_) fun hn => ?_) (fun hb => ?_) (fun hb => ?_)
        · congr 1
          apply decide_eq_decide.mpr
          constructor
          · intro h
            injection h with h
            omega
          · intro h
            rw [h]
        · have hn : i ≠ j := by simpa using hn
          have ok' := stP_ok hok hi2 hj2 hn
          have rep' := (hf.st i j).rep2 ok'
          obtain ⟨b, l, hc, hbl⟩ := rep'.cyc
          rw [freeP_eq hc]
          refine bg_is (bg_test (eg_eqD (d := .list (intsD (stuckL (stP Pl i j) b l))) (e := .list []) (eg_call (Φ := PhLStuck K) (ag_cons (eg_le (eg_call (Φ := PhCycleN K) (ag_cons (φ := Dd K (planD (stP Pl i j))) (eg_tupD (K := K) (ds := [.tuple (intsD Pl.bx), .tuple [iD i, iD j], .list [stepsD Pl.l0, stepsD Pl.l1]]) (ag_cons (eg_var rfl) (ag_cons (eg_tupD (K := K) (ds := [iD i, iD j]) (ag_cons (eg_var rfl) (ag_cons (eg_var rfl) ag_nil)) (Nat.le_of_ble_eq_true rfl)) (ag_cons (eg_var rfl) ag_nil))) (Nat.le_of_ble_eq_true rfl)) ag_nil) ⟨stP Pl i j, ok', rep', rfl, rfl⟩) (cyc_exact hc)) ag_nil) ⟨stP Pl i j, b, l, ok', hc, hbl, rfl, rfl⟩) (eg_lstD (ds := []) ag_nil (by decide)) stuck_shaped (by decide +kernel))) stuck_none
        · have hb : (!decide (i = j) && freeP (stP Pl i j)) = true := hb.symm
          rw [Bool.and_eq_true_iff] at hb
          have hn : i ≠ j := by simpa using hb.1
          refine s_appE (i := 6) (φ := Dd K (pairD (i, j))) rfl (eg_tupD (K := K) (ds := [iD i, iD j]) (ag_cons (eg_var rfl) (ag_cons (eg_var rfl) ag_nil)) (Nat.le_of_ble_eq_true rfl)) (by unfold pairsD; rw [List.length_map, List.length_map, List.length_append]; omega) (χs := (pairsD (accL Pl i ++ rowL Pl i (j + 1))).map (Dd K)) ?_ (by repeat (first | exact .nil | refine .cons (.inl rfl) ?_ | refine .cons (.inr rfl) ?_))
          rw [rowL_succ, if_pos ⟨hn, hb.2⟩]
          unfold pairsD
          simp
        · have hb : (!decide (i = j) && freeP (stP Pl i j)) = false := hb.symm
          have e : rowL Pl i (j + 1) = rowL Pl i j := by
            rw [rowL_succ, if_neg, List.append_nil]
            rintro ⟨h1, h2⟩
            rw [h2] at hb
            simp [h1] at hb
          show Wk _ [.un, .dr, .un, .fx (Dd K (.tuple (intsD Pl.bx))), .fx (Dd K (.tuple [iD Pl.a, iD Pl.b])), .fx (Dd K (.list [stepsD Pl.l0, stepsD Pl.l1])), .oo (OwL ((pairsD (accL Pl i ++ rowL Pl i (j + 1))).map (Dd K))), .fx (Dd K (iD i)), .un, .un]
          rw [e]
          exact (by repeat (first | exact .nil | refine .cons (.inl rfl) ?_ | refine .cons (.inr rfl) ?_))
      · have e : (rngF K 0 Pl.bx.length).length = Pl.bx.length := rngF_len
        rw [e, ← accL_succ] at h
        show Wk Γ' [.un, .dr, .un, .fx (Dd K (.tuple (intsD Pl.bx))), .fx (Dd K (.tuple [iD Pl.a, iD Pl.b])), .fx (Dd K (.list [stepsD Pl.l0, stepsD Pl.l1])), .oo (OwL ((pairsD (accL Pl (i + 1))).map (Dd K))), .un, .un, .un]
        have w : Wk [.un, .dr, .un, .fx (Dd K (.tuple (intsD Pl.bx))), .fx (Dd K (.tuple [iD Pl.a, iD Pl.b])), .fx (Dd K (.list [stepsD Pl.l0, stepsD Pl.l1])), .oo (OwL ((pairsD (accL Pl (i + 1))).map (Dd K))), .fx (Dd K (iD i)), .un, .un] [.un, .dr, .un, .fx (Dd K (.tuple (intsD Pl.bx))), .fx (Dd K (.tuple [iD Pl.a, iD Pl.b])), .fx (Dd K (.list [stepsD Pl.l0, stepsD Pl.l1])), .oo (OwL ((pairsD (accL Pl (i + 1))).map (Dd K))), .un, .un, .un] := (by repeat (first | exact .nil | refine .cons (.inl rfl) ?_ | refine .cons (.inr rfl) ?_))
        exact h.trans w
    rw [rngF_len]
    show SG m [.un, .dr, .un, .fx (Dd K (.tuple (intsD Pl.bx))), .fx (Dd K (.tuple [iD Pl.a, iD Pl.b])), .fx (Dd K (.list [stepsD Pl.l0, stepsD Pl.l1])), .oo (OwL ((pairsD (accL Pl (Pl.bx.length))).map (Dd K))), .un, .un, .un] _ _
    rw [accL_all]
    have fl : (freeL Pl).length ≤ 64 := by
      have := al Pl.bx.length
      rw [accL_all] at this
      have hm : Pl.bx.length * Pl.bx.length ≤ 64 := Nat.mul_le_mul h8 h8
      omega
    refine q_asgO (eo_call (Φ := PhFreesO K) (ag_cons (φ := Dd K (.str (planText Pl))) (eg_lawText (Pl := Pl) (eg_tupD (K := K) (ds := [.tuple (intsD Pl.bx), .tuple [iD Pl.a, iD Pl.b], .list [stepsD Pl.l0, stepsD Pl.l1]]) (ag_cons (eg_var rfl) (ag_cons (eg_var rfl) (ag_cons (eg_var rfl) ag_nil))) (Nat.le_of_ble_eq_true rfl)) hok) ag_nil) ⟨_, Pl, hT, hf, rfl, rfl⟩) ?_
    refine q_lawE (eg_equalH (d := .list (pairsD (freeL Pl))) (eh_own rfl) (eh_own rfl) (fits_pairs (by omega))) ?_
    exact s_appG (i := 9) (φ := Dd K (iD 0)) rfl eg_int (by unfold pairsD; rw [List.length_map, List.length_map]; omega) (by repeat (first | exact .nil | refine .cons (.inl rfl) ?_ | refine .cons (.inr rfl) ?_))

end SB

set_option maxHeartbeats 0
open PySem PySem.W PySem.Calls PyProof.Rows
theorem PySem.Challenge.cw_shelfbots_k08_free_starts_of_plans_holds : PySem.Challenge.rw_shelfbots_k08_free_starts_of_plans.Holds := by
  w_on; o_law
  refine HandSHeadRun.head_any (r := OpenLaw.row PySem.Challenge.rw_shelfbots_k08_free_starts_of_plans) (q := view (OpenLaw.row PySem.Challenge.rw_shelfbots_k08_free_starts_of_plans).prog [71]) (H := SB.hk) (ob := SB.ob) (M := 20000) (loose := SB.loose) (d := HandSHeadRun.topDef (OpenLaw.row PySem.Challenge.rw_shelfbots_k08_free_starts_of_plans).prog 71) (kwd := []) SB.ob_eq
    (by kernel_rfl) (fun s => by kernel_rfl) SB.run (by kernel_rfl) (by kernel_rfl) (by kernel_rfl) (by rfl) (by first | assumption | decide +kernel) (by decide +kernel) ⟨rfl, rfl, rfl, rfl, rfl, by decide +kernel⟩ ?hw ?hc
  case hw => w_witness2
  case hc =>
    refine LamX.walk_ofTsE (l := PySem.Challenge.rw_shelfbots_k08_free_starts_of_plans) (n := 63) (k := 13) (x := "_law_script") (CX := fun w => L2.CX (PySem.Challenge.rw_shelfbots_k08_free_starts_of_plans).prog w) rfl (by decide) (by kernel_rfl) ⟨rfl, by decide, by decide⟩ ?F (fun w H s e s' z => by
      obtain ⟨a, B, H', cls, d, z⟩ := z
      exact z.2.2.2.2.2.2.2)
    intro w mg fa h Y G hmg0
    obtain ⟨K, KX, c⟩ := Y
    have hmg : mg ("law" : PySem.Str) = some (.ref fa) := by
      have e : (HandSHeadRun.topDef (OpenLaw.row PySem.Challenge.rw_shelfbots_k08_free_starts_of_plans).prog 71).name = ("law" : PySem.Str) := by kernel_rfl
      rw [← e]
      exact hmg0
    have T := SB.txt KX G c
    have e := hmg.symm.trans T.g_law
    cases e
    obtain ⟨fd, F⟩ := T.F_law
    have b := L2.FunD.bindsA (ps := ["_law_script"]) F fun _ _ _ _ _ _ us hl => match us, hl with | [_], _ => rfl
    refine ⟨K, KX, fd, [], SB.spLaw K, (fun p hp => by cases hp), (fun p hp => by cases hp), (fun p hp => by cases hp), (fun s v => b s [v] rfl), (fun H a ns hl _ _ hS => ⟨a, ns, rfl, hS, hl, fun _ => rfl⟩), fun base _ _ _ => SB.ok_law T F⟩
