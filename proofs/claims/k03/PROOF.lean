import PyProof.Rows.All
import Wide.All
import OpenK.AllK
import Wide.FinOn
import KE.KStateDown
import HandS.ForMost
import HandS.ForExc
import HandS.Star
import HandS.MethStar
import HandS.FStr
import HandS.Flow
import HandS.Evl
import HandS.Zip
import HandS.NoneIn
import HandS.CallRecv
import HandS.IsInst
import HandS.StrMore
import HandS.Strs
import HandS.Deep
import HandS.ExcInit
import HandS.TryOnly
import HandS.Defaults
import HandS.EndBits
import HandS.ClsMeth
import HandS.HeadHook1
import HandS.Head0
import HandS.Head1
import HandS.Head2
import HandS.HeadEnd
import HandS.HeadHook2
import HandS.HeadHook3
import HandS.HeadHook4
import HandS.HeadWalk
import PySem.Challenge.RW_shelfbots_k03_canonical_plans
import HandS.Walk
import HandS.SetKeys
import HandS.Replace
import HandS.ReplaceList
set_option Elab.async false
set_option linter.all false
set_option maxRecDepth 100000
set_option maxHeartbeats 4000000
namespace SB
open PySem PySem.Spec PyProof.Rows L2
section
variable {X : Cx} {CX : CXT} {k : Nat} {C f : Addr} {x m : Str} {sp : Sp} {E : XK} {o e : Expr} {es : List Expr} {ta te : TE} {t : TA} {p apos pos : Pos}
/-- a constant of the module -/
theorem pe_gi {i : Int} (h : ∃ t, X.mg x = some (.int i t)) (hg : Gl X x := by rfl) (hd : (x == ("__debug__" : Str)) = false := by decide) : PE X (.Name x pos) (tC (.int i)) := by
  obtain ⟨t, h⟩ := h
  exact pe_glob hg h ⟨t, rfl⟩ hd
theorem pe_gs {z : Str} (h : ∃ t, X.mg x = some (.str z t)) (hg : Gl X x := by rfl) (hd : (x == ("__debug__" : Str)) = false := by decide) : PE X (.Name x pos) (tC (.str z)) := by
  obtain ⟨t, h⟩ := h
  exact pe_glob hg h ⟨t, rfl⟩ hd
theorem pe_gr {a : Addr} (h : X.mg x = some (.ref a)) (hg : Gl X x := by rfl) (hd : (x == ("__debug__" : Str)) = false := by decide) : PE X (.Name x pos) (tC (.ref a)) := pe_glob hg h rfl hd
/-- f(e, ..) by a positional promise -/
def tCallR (sp : Sp) (E : XK) (t : TA) : TE := fun σ H Q => t σ H fun vs H1 => sp vs H1 Q E
theorem pe_callR (F : FnR X.prog X.w X.K X.mg X.base CX k f sp) (hr : Room k X.A) (hm : X.mg x = some (.ref f)) (hk : PySem.W.keepIn X.K (.ref f) = true) (hx : Passes CX X E)
    (ha : PA X (e :: es) t) (hg : Gl X x := by rfl) (hdb : (x == ("__debug__" : Str)) = false := by decide) (he : starEach (e :: es) X.env = (false, eval e X.env) :: starEach es X.env := by rfl) (hpl : (backTo pos (starEach es X.env)).any (·.1) = false := by rfl) :
    PE X (.Call (.Name x p) (e :: es) [] pos) (tCallR sp E t) := by
  refine ⟨fun pins s σ H Q I h => ?_⟩
  refine wpAny_Call_Name_kw (ld_glob I hg hm ?_ hdb)
  refine PySem.W.callWith_K (h₀ := X.base) I.ok.mod.kin hk (thn (ha.run pos pins s σ H _ I h) fun us s1 ⟨vs, H1, I1, r, q⟩ => ⟨I1.kIn, ?_⟩) he hpl
  exact wpAny_call (run_fnR F hr hx I1 r q)
/-- o.m() by a positional promise -/
def tMethR0 (C : Addr) (m : Str) (sp : Sp) (E : XK) (ta : TE) : TE := fun σ H Q => ta σ H fun x H1 => ∃ a dx fs, x = .ref a ∧ H1 a = some (.ins C dx fs) ∧ fs.lookup m = none ∧ sp [x] H1 Q E
theorem pe_methR0 {pl : Sem Bool} (he : PE X o ta) (c : Cls X.K C) (hm : Meth X.K C m f)
    (F : FnR X.prog X.w X.K X.mg X.base CX k f sp) (hr : Room k X.A) (hx : Passes CX X E)
    (ht : eval (.Call (.Attribute o m apos) [] [] pos) X.env = (do
      let ov ← eval o X.env
      standAt apos.atName
      let (f, first) ← holding [ov] (getMethod ov m pl)
      callWith pos f first (backTo pos (starEach [] X.env)) (backToKw pos (keywordEach [] X.env))) := by rfl) :
    PE X (.Call (.Attribute o m apos) [] [] pos) (tMethR0 C m sp E ta) := by
  refine ⟨fun pins s σ H Q I h => ?_⟩
  refine PySem.W.methodCall_KW (pl := pl) (thn (he.run pins s σ H _ I h) fun u s1 ⟨x, H1, I1, rx, a, dx, fs, ex, ea, l, q⟩ => ?_) ht
  subst ex
  obtain rfl : u = Value.ref a := rx
  refine getmeth_ok I1 ea c hm l ?_
  exact PySem.W.callWith_K0 (first := [.ref a]) I1.kIn hm.kp (wpAny_call (run_fnR (us := [.ref a]) (vs := [.ref a]) F hr hx I1 (.cons rfl .nil) q))
end
/-- what a callee lets out goes on to the caller of this def -/
theorem px {P : Program} {w : World} {K : PySem.W.Frag} {mg : Str → Option Value} {base : Heap} {N : List Str} {qual : Str} {sc : Scope} {f : Addr} {cdv : Value} {A : Around} {outer : List Env} {s : Shared} {H : Hp} {E : XK} :
    Passes (L2.CX P w) (cxOf (L2.CX P w) P w K mg base N qual sc f cdv A outer s H E) E := passes_call (takes_of rfl rfl rfl rfl) (fun _ _ _ _ h => h)
end SB

set_option maxHeartbeats 4000000
namespace SB
open PySem PySem.Spec PyProof.Rows L2
open TL (tl)
/-! ### the lexer, as a plain function -/
def isL (c : Nat) : Bool := decide (97 ≤ c) && decide (c ≤ 122)
def isD (c : Nat) : Bool := decide (48 ≤ c) && decide (c ≤ 57)
def mkS (l : List Nat) : Str := ⟨l.toArray⟩
theorem tl_mkS (l : List Nat) : tl (mkS l) = l := rfl
theorem mkS_tl (z : Str) : mkS (tl z) = z := by
  obtain ⟨a⟩ := z
  show Str.mk (a.toList.toArray) = _
  simp
theorem mkS_len (l : List Nat) : (mkS l).length = l.length := by simp [mkS, Str.length]
theorem len_tl (z : Str) : (tl z).length = z.length := by
  obtain ⟨a⟩ := z
  simp [tl, Str.length]
theorem mkS_inj {a b : List Nat} (h : mkS a = mkS b) : a = b := by
  have := congrArg tl h
  simpa [tl_mkS] using this
def letters : Str := "abcdefghijklmnopqrstuvwxyz"
def digits : Str := "0123456789"
theorem letters_eq : letters = mkS ((List.range 26).map (· + 97)) := by decide +kernel
theorem digits_eq : digits = mkS ((List.range 10).map (· + 48)) := by decide +kernel
theorem mem_letters (c : Nat) : decide (c ∈ letters.cps.toList) = isL c := by
  have e : letters.cps.toList = (List.range 26).map (· + 97) := by rw [letters_eq]; rfl
  rw [e]
  unfold isL
  rw [← Bool.decide_and]
  apply decide_eq_decide.mpr
  simp only [List.mem_map, List.mem_range]
  constructor
  · rintro ⟨a, h1, h2⟩; omega
  · intro h; exact ⟨c - 97, by omega, by omega⟩
theorem mem_digits (c : Nat) : decide (c ∈ digits.cps.toList) = isD c := by
  have e : digits.cps.toList = (List.range 10).map (· + 48) := by rw [digits_eq]; rfl
  rw [e]
  unfold isD
  rw [← Bool.decide_and]
  apply decide_eq_decide.mpr
  simp only [List.mem_map, List.mem_range]
  constructor
  · rintro ⟨a, h1, h2⟩; omega
  · intro h; exact ⟨c - 48, by omega, by omega⟩
/-- the word, the digits or the single sign at the head -/
def longest (l : List Nat) : List Nat :=
  if (l.takeWhile isL).isEmpty then (if (l.takeWhile isD).isEmpty then l.take 1 else l.takeWhile isD) else l.takeWhile isL
def keyw : List Str := ["shelf", "robot", "left", "right", "pick", "put", "wait", "goto", "empty", "held"]
def sign : List Str := [";", ":", "{", "}"]
def validNum (t : List Nat) : Bool := decide (t.length ≤ 2) && (decide (t = [48]) || !decide (t.head? = some 48))
def kindOf (t : List Nat) : Option Str :=
  if decide (mkS t ∈ keyw) || decide (mkS t ∈ sign) then some (mkS t)
  else match t with
    | [] => none
    | c :: _ => if isL c && decide (t.length ≤ 8) then some "name" else if isD c && validNum t then some "number" else none
structure Tk where
  kind : Str
  text : Str
  line : Nat
  col : Nat
  deriving DecidableEq
abbrev Res := Except (Nat × Nat) (List Tk)
def withFront (acc : List Tk) : Res → Res
  | .ok ts => .ok (acc ++ ts)
  | .error e => .error e
theorem withFront_app (a b : List Tk) (r : Res) : withFront (a ++ b) r = withFront a (withFront b r) := by
  cases r <;> simp [withFront]
theorem withFront_nil (r : Res) : withFront [] r = r := by cases r <;> simp [withFront]
/-- one row; the fuel is at least its length -/
def readRow : Nat → List Nat → Nat → Nat → Res
  | 0, _, _, _ => .ok []
  | _ + 1, [], _, _ => .ok []
  | n + 1, c :: r, line, col =>
    if c = 32 then readRow n r line (col + 1)
    else match kindOf (longest (c :: r)) with
      | none => .error (line, col)
      | some k => withFront [⟨k, mkS (longest (c :: r)), line, col⟩] (readRow n ((c :: r).drop (longest (c :: r)).length) line (col + (longest (c :: r)).length))
theorem readRow_nil (n line col : Nat) : readRow n [] line col = .ok [] := by cases n <;> rfl
theorem readRow_blank {n : Nat} {r : List Nat} {line col : Nat} : readRow (n + 1) (32 :: r) line col = readRow n r line (col + 1) := by simp [readRow]
theorem readRow_tok {n c : Nat} {r : List Nat} {line col : Nat} {k : Str} (h : c ≠ 32) (hk : kindOf (longest (c :: r)) = some k) :
    readRow (n + 1) (c :: r) line col = withFront [⟨k, mkS (longest (c :: r)), line, col⟩] (readRow n ((c :: r).drop (longest (c :: r)).length) line (col + (longest (c :: r)).length)) := by
  simp only [readRow, if_neg h, hk]
theorem readRow_bad {n c : Nat} {r : List Nat} {line col : Nat} (h : c ≠ 32) (hk : kindOf (longest (c :: r)) = none) : readRow (n + 1) (c :: r) line col = .error (line, col) := by
  simp only [readRow, if_neg h, hk]
def readRows : List Str → Nat → Res
  | [], _ => .ok []
  | z :: r, line => match readRow z.length (tl z) line 0 with
    | .error e => .error e
    | .ok ts => withFront ts (readRows r (line + 1))
def endTk (n : Nat) : Tk := ⟨"end", "", n, 0⟩
def lexAll (z : Str) : Res := match readRows (Txt.split z "\n") 0 with
  | .error e => .error e
  | .ok ts => .ok (ts ++ [endTk (Txt.split z "\n").length])
theorem takeWhile_le (p : Nat → Bool) : ∀ l : List Nat, (l.takeWhile p).length ≤ l.length
  | [] => Nat.le_refl _
  | a :: l => by
    simp only [List.takeWhile]
    split
    · simp only [List.length_cons]
      have := takeWhile_le p l
      omega
    · simp
theorem longest_pos (c : Nat) (r : List Nat) : 0 < (longest (c :: r)).length := by
  unfold longest
  split
  · split
    · simp
    · rename_i h1 h2
      cases h : (c :: r).takeWhile isD with
      | nil => rw [h] at h2; simp at h2
      | cons a b => simp
  · rename_i h1
    cases h : (c :: r).takeWhile isL with
    | nil => rw [h] at h1; simp at h1
    | cons a b => simp
theorem longest_le (l : List Nat) : (longest l).length ≤ l.length := by
  unfold longest
  split
  · split
    · rw [List.length_take]; omega
    · exact takeWhile_le _ _
  · exact takeWhile_le _ _
theorem longest_L {l : List Nat} (h : l.takeWhile isL ≠ []) : longest l = l.takeWhile isL := by
  unfold longest
  rw [if_neg]
  intro q
  exact h (List.isEmpty_iff.mp q)
theorem longest_D {l : List Nat} (h0 : l.takeWhile isL = []) (h : l.takeWhile isD ≠ []) : longest l = l.takeWhile isD := by
  unfold longest
  rw [if_pos (List.isEmpty_iff.mpr h0), if_neg]
  intro q
  exact h (List.isEmpty_iff.mp q)
theorem longest_1 {l : List Nat} (h0 : l.takeWhile isL = []) (h1 : l.takeWhile isD = []) : longest l = l.take 1 := by
  unfold longest
  rw [if_pos (List.isEmpty_iff.mpr h0), if_pos (List.isEmpty_iff.mpr h1)]
theorem takeWhile_take (p : Nat → Bool) : ∀ l : List Nat, l.take (l.takeWhile p).length = l.takeWhile p
  | [] => rfl
  | a :: l => by
    simp only [List.takeWhile]
    split
    · simp only [List.length_cons, List.take_succ_cons]
      rw [takeWhile_take p l]
    · simp
theorem longest_take (l : List Nat) : l.take (longest l).length = longest l := by
  unfold longest
  split
  · split
    · cases l <;> simp
    · exact takeWhile_take _ _
  · exact takeWhile_take _ _
theorem withFront_ok {a ts : List Tk} {r : Res} (h : withFront a r = .ok ts) : ∃ t2, r = .ok t2 ∧ ts = a ++ t2 := by
  cases r with
  | error e => cases h
  | ok t2 => exact ⟨t2, rfl, (Except.ok.inj h).symm⟩
theorem readRow_len : ∀ (n : Nat) (l : List Nat) (line col : Nat) (ts : List Tk), readRow n l line col = .ok ts → ts.length ≤ l.length
  | 0, l, line, col, ts, h => by
    obtain rfl := Except.ok.inj h
    simp
  | n + 1, [], line, col, ts, h => by
    obtain rfl := Except.ok.inj h
    simp
  | n + 1, c :: r, line, col, ts, h => by
    by_cases q : c = 32
    · subst q
      rw [readRow_blank] at h
      have := readRow_len n r line (col + 1) ts h
      simp
      omega
    · cases hk : kindOf (longest (c :: r)) with
      | none =>
        rw [readRow_bad q hk] at h
        cases h
      | some k =>
        rw [readRow_tok q hk] at h
        obtain ⟨t2, h2, rfl⟩ := withFront_ok h
        have := readRow_len n _ line _ t2 h2
        rw [List.length_drop] at this
        have h3 := longest_pos c r
        have h4 := longest_le (c :: r)
        simp only [List.length_append, List.length_singleton]
        omega
theorem app_len' (a b : Str) : (a ++ b).length = a.length + b.length := by
  show (a.cps ++ b.cps).size = _
  rw [Array.size_append]
  rfl
theorem join_len (y : Str) (hy : y.length = 1) : ∀ parts : List Str, parts ≠ [] → (Str.join y parts).length + 1 = (parts.map Str.length).sum + parts.length
  | [], h => absurd rfl h
  | [x], _ => by simp [Str.join]
  | x :: z :: r, _ => by
    have ih := join_len y hy (z :: r) (by simp)
    show (x ++ y ++ Str.join y (z :: r)).length + 1 = _
    rw [app_len', app_len', hy]
    simp only [List.map_cons, List.sum_cons, List.length_cons] at ih ⊢
    omega
theorem nl_len : (("\n" : Str)).length = 1 := by decide +kernel
theorem rows_len (z : Str) : ((Txt.split z "\n").map Str.length).sum + (Txt.split z "\n").length = z.length + 1 := by
  have h := join_len "\n" nl_len (Txt.split z "\n") (by
    intro e
    have := PyProof.Rows.split_pos z "\n"
    rw [e] at this
    simp at this)
  have e := PySem.StrLaws.join_split z "\n"
  rw [e] at h
  omega
theorem readRows_cons_ok {z : Str} {r : List Str} {line : Nat} {ts : List Tk} (h : readRow z.length (tl z) line 0 = .ok ts) : readRows (z :: r) line = withFront ts (readRows r (line + 1)) := by
  simp only [readRows, h]
theorem readRows_cons_bad {z : Str} {r : List Str} {line : Nat} {e : Nat × Nat} (h : readRow z.length (tl z) line 0 = .error e) : readRows (z :: r) line = .error e := by
  simp only [readRows, h]
theorem sum_take_le : ∀ (l : List Nat) (i : Nat) (x : Nat), l[i]? = some x → (l.take i).sum + x = (l.take (i + 1)).sum
  | [], i, x, h => by simp at h
  | a :: l, 0, x, h => by
    obtain rfl : a = x := Option.some.inj h
    simp
  | a :: l, i + 1, x, h => by
    have := sum_take_le l i x h
    simp only [List.take_succ_cons, List.sum_cons]
    omega
theorem sum_take_all (l : List Nat) (i : Nat) : (l.take i).sum ≤ l.sum := by
  induction l generalizing i with
  | nil => simp
  | cons a l ih =>
    cases i with
    | zero => simp
    | succ i =>
      have := ih i
      simp only [List.take_succ_cons, List.sum_cons]
      omega
end SB

set_option maxHeartbeats 4000000
namespace SB
open PySem PySem.Spec PyProof.Rows L2
open TL (tl)
section
variable {P : Program} {w : World} {K : PySem.W.Frag} {mg : Str → Option Value} {base : Heap} {CX : CXT} {k : Nat} {f : Addr} {x qual : Str} {params : Arguments} {body : List Stmt} {scope : Scope} {fd : FuncData} {ps : List Str} {sp : Sp}
theorem fnR_of (F : FunD K x qual params body scope [] [] f fd) (b : Binds K fd ps []) (G : FnOk P w K mg base CX k f fd ps sp) : FnR P w K mg base CX k f sp :=
  (G.raw b .nil).imp fun vs H Q E h => by rw [List.append_nil]; exact h
end
theorem putF_eq {f : Str} {v u : V} {r : List (Str × V)} : putF f v ((f, u) :: r) = (f, v) :: r := by
  show (if f = f then _ else _) = _
  rw [if_pos rfl]
theorem putF_ne {f g : Str} {v u : V} {r : List (Str × V)} (h : ¬ g = f) : putF f v ((g, u) :: r) = (g, u) :: putF f v r := by
  show (if g = f then _ else _) = _
  rw [if_neg h]
theorem putF_nil {f : Str} {v : V} : putF f v [] = [(f, v)] := rfl
theorem look_eq {f : Str} {v : V} {r : List (Str × V)} : ((f, v) :: r).lookup f = some v := by simp [List.lookup]
theorem look_ne {f g : Str} {v : V} {r : List (Str × V)} (h : ¬ g = f) : ((g, v) :: r).lookup f = r.lookup f := by
  have e : (f == g) = false := by simpa using fun q => h q.symm
  simp [List.lookup, e]
example (a b : V) : putF ("line" : Str) a [(("kind" : Str), b)] = [(("kind" : Str), b), (("line" : Str), a)] := by rfl
example (a b : V) : ([(("kind" : Str), b), (("line" : Str), a)] : List (Str × V)).lookup ("line" : Str) = some a := by rfl
example (a b : V) : ([(("kind" : Str), b), (("line" : Str), a)] : List (Str × V)).lookup ("first" : Str) = none := by rfl
end SB

set_option maxHeartbeats 4000000
namespace SB
open PySem PySem.Spec PyProof.Rows L2
open TL (tl)
section
variable {X : Cx} {e : Expr} {es : List Expr} {ta : TA} {p1 p2 pos : Pos} {CB : Addr} {x : Str}
/-- B.__init__(self, ..), B an own class over ValueError without an __init__ of its own -/
theorem pe_binit {pl : Sem Bool} (hm : X.mg x = some (.ref CB)) (r : ClX.CRead X.K CB (.type "type")) (vV : PySem.W.findCls X.K (.ref CB) (.type "type") "__init__" = some (.val (.builtin "ValueError.__init__"))) (ha : PA X (e :: es) ta) (hg : Gl X x := by rfl)
    (hdb : (x == ("__debug__" : Str)) = false := by decide)
    (hc : eval (.Call (.Attribute (.Name x p1) "__init__" p2) (e :: es) [] pos) X.env = (do
      let ov ← eval (.Name x p1) X.env
      standAt p2.atName
      let (f, first) ← holding [ov] (getMethod ov "__init__" pl)
      callWith pos f first (backTo pos (starEach (e :: es) X.env)) (backToKw pos (keywordEach [] X.env))) := by rfl)
    (he : starEach (e :: es) X.env = (false, eval e X.env) :: starEach es X.env := by rfl) (hpl : (backTo pos (starEach es X.env)).any (·.1) = false := by rfl) :
    PE X (.Call (.Attribute (.Name x p1) "__init__" p2) (e :: es) [] pos) (tVeI X.K ta) := by
  refine ⟨fun pins s σ H Q I h => ?_⟩
  refine PySem.W.methodCall_KW (ld_glob I hg hm ?_ hdb) hc
  refine PySem.W.method_cls I.kIn r.ga (PySem.W.cls_value I.kIn r.rd vV (by decide +kernel) ?_)
  show wpAny _ _ (callWith pos (Value.builtin "ValueError.__init__") [] (backTo pos (starEach (e :: es) X.env)) []) _ _ _
  refine PyProof.Rows.callWith_method1 (thn (ha.run pos pins _ σ H _ (I.tok _) h) fun us s1 ⟨vs, H1, I1, r1, a, C, ws, ev, hl, T, ea, q⟩ => ?_) he hpl
  subst ev
  cases r1 with
  | @cons _ u0 _ ur ra rw' =>
    obtain rfl : u0 = Value.ref a := ra
    have hlen : ur.length ≤ sizeLine := by
      rw [← Paired.length rw', sizeLine_eq]
      omega
    exact oinit_ok T I1 ea hlen fun s' J => ⟨.non, H1, J, rfl, q⟩
end

/-! ### an own error class with an __init__ -/
def oexB (K : PySem.W.Frag) (C : Addr) : Bool := (match K.lookup C with
  | some ⟨.type "type", _, .cls cd, sl⟩ => (match cd.mro, sl.toList with
    | .ref C' :: bm, [_, _, _, _, some (.builtin n), _] => C' == C && n == "ValueError.__new__" && !cd.hasDel && cd.hasDict && PySem.HandSPX.refsVE bm
    | _, _ => false)
  | _ => false) && (He.eqO (PySem.W.findIn K (.ref C) "__setattr__") (some (some (.builtin "object.__setattr__"))) && (decide (PySem.W.subIn K (.ref C) (.type "BaseException") = some true) && (decide (PySem.W.typeIn K (.ref C) = some (.type "type")) && PySem.W.keepIn K (.ref C))))
theorem oexB_ok {K : PySem.W.Frag} {C : Addr} (h : oexB K C = true) : OexC K C := by
  obtain ⟨q, h⟩ := He.ba h
  obtain ⟨h1, h⟩ := He.ba h
  obtain ⟨h2, h⟩ := He.ba h
  obtain ⟨h3, h4⟩ := He.ba h
  refine ⟨?_, He.eqO_ok h1, of_decide_eq_true h2, of_decide_eq_true h3, h4⟩
  split at q
  · rename_i dd cd sl ho
    split at q
    · rename_i C' bm k0 k1 k2 k3 n k5 hm hs
      simp only [Bool.and_eq_true, beq_iff_eq, Bool.not_eq_true'] at q
      obtain ⟨⟨⟨⟨rfl, rfl⟩, hdel⟩, hdict⟩, ht⟩ := q
      obtain ⟨nm, bs, mro, ns, qn, hd, sn, sub, ab, col, del⟩ := cd
      dsimp only at hm hdel hdict
      subst hm hdel hdict
      have hsl : sl = #[k0, k1, k2, k3, some (.builtin "ValueError.__new__"), k5] := by
        obtain ⟨l⟩ := sl
        simp only at hs
        rw [hs]
      subst hsl
      exact ⟨nm, qn, ns, bs, bm, sn, sub, ab, col, dd, k0, k1, k2, k3, k5, ho, ht⟩
    · cases q
  · cases q
def binitB (K : PySem.W.Frag) (C : Addr) : Bool := PySem.W.readsIn K C (.type "type") && (He.eqO (PySem.W.specialIn K (.ref C) "__getattribute__") (some (some (.builtin "type.__getattribute__"))) && (match PySem.W.findCls K (.ref C) (.type "type") "__init__" with
  | some (.val v) => decide (v = .builtin "ValueError.__init__")
  | _ => false))
theorem binitB_ok {K : PySem.W.Frag} {C : Addr} (h : binitB K C = true) : ClX.CRead K C (.type "type") ∧ PySem.W.findCls K (.ref C) (.type "type") "__init__" = some (.val (.builtin "ValueError.__init__")) := by
  obtain ⟨h1, h⟩ := He.ba h
  obtain ⟨h2, h3⟩ := He.ba h
  refine ⟨⟨h1, He.eqO_ok h2⟩, ?_⟩
  split at h3
  · rename_i v e
    rw [e, of_decide_eq_true h3]
  · cases h3
/-- an error of the class at C leaves a def: its own dict is new and holds fs -/
def Fails (H : Hp) (E : XK) (C : Addr) (fs : List (Str × V)) : Prop := ∀ (d : Addr) (H' : Hp), Same H H' → H d = none → H' d = some (.xd fs) → E (.ref C) (some d) H'
theorem Fails.mono {H H' : Hp} {E : XK} {C : Addr} {fs : List (Str × V)} (h : Fails H E C fs) (e : Same H H') : Fails H' E C fs := fun d H2 e2 n x => h d H2 (e.trans e2) (e.free n) x
/-- the promise of such an __init__ -/
def spOInit (C : Addr) (g : List V → List (Str × V) → Prop) : Sp := fun vs H Q _ => ∃ a us fs, vs = .ref a :: us ∧ g us fs ∧ H a = some (exo a C none) ∧
  ∀ (d : Addr) (H' : Hp), H d = none → d ≠ a → H' a = some (exo a C (some d)) → H' d = some (exd d fs) → (∀ b o, H b = some o → b ≠ a → H' b = some o) → Q .non H'
def sfF (l c : Int) : List (Str × V) := [("column", .int c), ("line", .int l)]
def cfF (z : Str) (l c : Int) : List (Str × V) := [("column", .int c), ("line", .int l), ("reason", .str z)]
def smallI (i : Int) : Prop := 0 ≤ i ∧ i ≤ 1000000
def gSF (us : List V) (fs : List (Str × V)) : Prop := ∃ l c : Int, us = [.int l, .int c] ∧ fs = sfF l c ∧ smallI l ∧ smallI c
def gCF (us : List V) (fs : List (Str × V)) : Prop := ∃ (z : Str) (l c : Int), us = [.str z, .int l, .int c] ∧ fs = cfF z l c ∧ z.length ≤ 100 ∧ smallI l ∧ smallI c
theorem log_ok {i : Int} (h : smallI i) : i.natAbs.log2 < 1920 := by
  obtain ⟨h1, h2⟩ := h
  have e : i.natAbs < 2 ^ 20 := by omega
  by_cases z : i.natAbs = 0
  · rw [z]; decide
  · have := (Nat.log2_lt z (k := 20)).mpr e
    omega
theorem txt_ok {i : Int} (h : smallI i) : (Str.ofString (toString i)).length ≤ 7 := by
  obtain ⟨h1, h2⟩ := h
  exact toString_length_le h1 (by decide) (by omega)
theorem app_len (a b : Str) : (a ++ b).length = a.length + b.length := by
  show (a.cps ++ b.cps).size = _
  rw [Array.size_append]
  rfl
theorem oinit_fails {C : Addr} {g : List V → List (Str × V) → Prop} {us : List V} {fs : List (Str × V)} {H1 : Hp} {E : XK} {W : WX} {σ : L2.St} (h : g us fs) (hl : us.length ≤ 1000) (k : Fails H1 E C fs) (hW : ∀ cls d H, E cls d H → W cls d σ H) :
    us.length ≤ 1000 ∧ ∀ a, H1 a = none → spOInit C g (.ref a :: (us ++ [])) (upd H1 a (exo a C none))
      (fun v H2 => v = .non ∧ ∃ (d : Addr) (fs : List (Str × V)), H2 a = some (exo a C (some d)) ∧ H2 d = some (exd d fs) ∧ H1 d = none ∧ W (.ref C) (some d) σ (upd (del H2 a) d (.xd fs))) (fun _ _ _ => False) := by
  refine ⟨hl, fun a na => ⟨a, us, fs, by rw [List.append_nil], h, upd_same, fun d H' nd ne ha hd kp => ⟨rfl, d, fs, ha, hd, ?_, hW _ _ _ (k d _ (fun b o e => ?_) ?_ upd_same)⟩⟩⟩
  · rw [upd_ne ne] at nd
    exact nd
  · have nb : b ≠ a := ne_of_none e na
    rw [upd_ne ne] at nd
    rw [upd_ne (ne_of_none e nd), del_ne nb]
    exact kp b o (by rw [upd_ne nb]; exact e) nb
  · rw [upd_ne ne] at nd
    exact nd
end SB

set_option maxHeartbeats 4000000
namespace SB
open PySem PySem.Spec PyProof.Rows L2
/-- what some addresses reach in n steps -/
def reach (g : Addr → Option Obj) (from_ : List Addr) : Nat → List Addr
  | 0 => from_
  | n + 1 => He.growD g (reach g from_ n)
def seeS (n : Nat) (st : List Addr) (fa : List He.Fa) (fn : List He.DefD) (tf : List He.Defn) (ex : PySem.W.Frag → Bool) (g : Addr → Option Obj) : He.AlX :=
  (He.obsT fa fn [] (He.frT g (reach g st n)), ex (He.frT g (reach g st n)) && He.tabsB g tf (He.frT g (reach g st n)))
theorem says_any {fa : List He.Fa} {fn : List He.DefD} {tf : List He.Defn} {ex : PySem.W.Frag → Bool} {w : World} {h : Heap} {as : List Addr}
    (e1 : He.obsT fa fn [] (He.frT h.get? as) = He.valT fn [] w) (e2 : ex (He.frT h.get? as) = true) (e3 : He.tabsB h.get? tf (He.frT h.get? as) = true) : He.SaysX fa fn [] tf ex w h (He.frT h.get? as) := by
  have at_ := List.all_eq_true.mp (show (tf.all _) = true from e3)
  have tab : ∀ p ∈ tf, ∃ o, h.get? (He.cT (He.frT h.get? as) p).2 = some o ∧ He.emptyTab o = true := by
    intro p hp
    have b := (He.ba (at_ p hp)).2
    revert b
    cases q : h.get? (He.cT (He.frT h.get? as) p).2 with
    | none => intro b; cases b
    | some o => intro b; exact ⟨o, rfl, b⟩
  constructor
  · exact e1
  · exact e2
  · exact fun p hp => (He.ba (at_ p hp)).1
  · intro p hp
    obtain ⟨o, q, z⟩ := tab p hp
    exact He.frT_none q z
  · intro p hp
    obtain ⟨o, q, z⟩ := tab p hp
    rw [q, He.emptyTab_eq z]
def hookS (n : Nat) (st : List Addr) (fa : List He.Fa) (fn : List He.DefD) (tf : List He.Defn) (ex : PySem.W.Frag → Bool) : PySem.W.Hook where
  α := He.AlX
  obs := fun s => seeS n st fa fn tf ex s.heap.get?
  val := fun w => He.valX fn [] w
  says := fun w h => ∃ K : PySem.W.Frag, K.In h ∧ He.SaysX fa fn [] tf ex w h K
  of := fun _ _ e => by
    have a := congrArg Prod.fst e
    have b := He.ba (congrArg Prod.snd e)
    exact ⟨_, He.frT_in, says_any a b.1 b.2⟩
  keeps := by
    rintro w h h' ⟨K, hK, c⟩ k
    exact ⟨K, PySem.W.Frag.In.keeps hK k, c.t, c.more, c.hd, c.out, fun p hp => k _ _ (c.empty p hp)⟩
theorem seeS_eq {n : Nat} {st : List Addr} {fa : List He.Fa} {fn : List He.DefD} {tf : List He.Defn} {ex : PySem.W.Frag → Bool} {g : Addr → Option Obj} {s : Shared} (h : ∀ a, g a = s.heap.get? a) : seeS n st fa fn tf ex g = (hookS n st fa fn tf ex).obs s := by
  obtain rfl : g = s.heap.get? := funext h
  rfl
end SB

set_option maxHeartbeats 4000000
namespace SB
open PySem PySem.Spec PyProof.Rows L2
def top (i : Nat) : Stmt := PySem.Challenge.pw_shelfbots_k03_canonical_plans.main.body.getD i (.Pass ⟨0, 0, 0, 0⟩)
abbrev s_SyntaxFault_init : Stmt := inClass (top 2) 0
abbrev s_CheckFault_init : Stmt := inClass (top 3) 0
abbrev s_Token_init : Stmt := inClass (top 16) 0
abbrev s_read_tokens : Stmt := top 17
abbrev s_read_row : Stmt := top 18
abbrev s_longest_text : Stmt := top 19
abbrev s_kind_of : Stmt := top 20
abbrev s_is_valid_number : Stmt := top 21
abbrev s_PlanTokens_init : Stmt := inClass (top 23) 0
abbrev s_RobotTokens_init : Stmt := inClass (top 24) 0
abbrev s_StepTokens_init : Stmt := inClass (top 25) 0
abbrev s_StepTokens_first : Stmt := inClass (top 25) 1
abbrev s_Parser_init : Stmt := inClass (top 26) 0
abbrev s_Parser_next_kind : Stmt := inClass (top 26) 1
abbrev s_Parser_take : Stmt := inClass (top 26) 2
abbrev s_Parser_take_plan : Stmt := inClass (top 26) 3
abbrev s_Parser_take_robot : Stmt := inClass (top 26) 4
abbrev s_Parser_take_step : Stmt := inClass (top 26) 5
abbrev s_parse_plan : Stmt := top 27
abbrev s_Plan_init : Stmt := inClass (top 34) 0
abbrev s_read_plan : Stmt := top 35
abbrev s_linked_plan : Stmt := top 36
abbrev s_linked_steps : Stmt := top 37
abbrev s_first_labels : Stmt := top 38
abbrev s_check_plan : Stmt := top 39
abbrev s_fault_at : Stmt := top 40
abbrev s_shelf_faults : Stmt := top 41
abbrev s_start_faults : Stmt := top 42
abbrev s_step_faults : Stmt := top 43
abbrev s_format_plan : Stmt := top 46
abbrev s_count_steps : Stmt := top 47
abbrev s_plan_text : Stmt := top 48
abbrev s_step_lines : Stmt := top 49
abbrev s_label_of : Stmt := top 50
abbrev s__law_random : Stmt := top 52
abbrev s__law_below : Stmt := top 53
abbrev s__law_steps : Stmt := top 54
abbrev s__law_plan : Stmt := top 55
abbrev s__law_text : Stmt := top 56
abbrev s__law_shuffled : Stmt := top 57
abbrev s__law_equal : Stmt := top 58
abbrev s_law : Stmt := top 59
abbrev N_SyntaxFault_init : List Str := ["self", "line", "column"]
abbrev P_SyntaxFault_init : List Str := ["self", "line", "column"]
theorem sc_SyntaxFault_init : FnScope N_SyntaxFault_init P_SyntaxFault_init (defScope s_SyntaxFault_init) := ⟨rfl, rfl, rfl, by decide +kernel, rfl, by decide +kernel, by decide +kernel⟩
abbrev N_CheckFault_init : List Str := ["self", "reason", "line", "column"]
abbrev P_CheckFault_init : List Str := ["self", "reason", "line", "column"]
theorem sc_CheckFault_init : FnScope N_CheckFault_init P_CheckFault_init (defScope s_CheckFault_init) := ⟨rfl, rfl, rfl, by decide +kernel, rfl, by decide +kernel, by decide +kernel⟩
abbrev N_Token_init : List Str := ["self", "kind", "text", "line", "column"]
abbrev P_Token_init : List Str := ["self", "kind", "text", "line", "column"]
theorem sc_Token_init : FnScope N_Token_init P_Token_init (defScope s_Token_init) := ⟨rfl, rfl, rfl, by decide +kernel, rfl, by decide +kernel, by decide +kernel⟩
abbrev N_read_tokens : List Str := ["text", "tokens", "rows", "line", "row"]
abbrev P_read_tokens : List Str := ["text"]
theorem sc_read_tokens : FnScope N_read_tokens P_read_tokens (defScope s_read_tokens) := ⟨rfl, rfl, rfl, by decide +kernel, rfl, by decide +kernel, by decide +kernel⟩
abbrev N_read_row : List Str := ["row", "line", "tokens", "column", "text"]
abbrev P_read_row : List Str := ["row", "line"]
theorem sc_read_row : FnScope N_read_row P_read_row (defScope s_read_row) := ⟨rfl, rfl, rfl, by decide +kernel, rfl, by decide +kernel, by decide +kernel⟩
abbrev N_longest_text : List Str := ["row", "column", "characters", "end"]
abbrev P_longest_text : List Str := ["row", "column"]
theorem sc_longest_text : FnScope N_longest_text P_longest_text (defScope s_longest_text) := ⟨rfl, rfl, rfl, by decide +kernel, rfl, by decide +kernel, by decide +kernel⟩
abbrev N_kind_of : List Str := ["text", "line", "column"]
abbrev P_kind_of : List Str := ["text", "line", "column"]
theorem sc_kind_of : FnScope N_kind_of P_kind_of (defScope s_kind_of) := ⟨rfl, rfl, rfl, by decide +kernel, rfl, by decide +kernel, by decide +kernel⟩
abbrev N_is_valid_number : List Str := ["digits"]
abbrev P_is_valid_number : List Str := ["digits"]
theorem sc_is_valid_number : FnScope N_is_valid_number P_is_valid_number (defScope s_is_valid_number) := ⟨rfl, rfl, rfl, by decide +kernel, rfl, by decide +kernel, by decide +kernel⟩
abbrev N_PlanTokens_init : List Str := ["self", "keyword", "numbers", "robots"]
abbrev P_PlanTokens_init : List Str := ["self", "keyword", "numbers", "robots"]
theorem sc_PlanTokens_init : FnScope N_PlanTokens_init P_PlanTokens_init (defScope s_PlanTokens_init) := ⟨rfl, rfl, rfl, by decide +kernel, rfl, by decide +kernel, by decide +kernel⟩
abbrev N_RobotTokens_init : List Str := ["self", "start", "steps"]
abbrev P_RobotTokens_init : List Str := ["self", "start", "steps"]
theorem sc_RobotTokens_init : FnScope N_RobotTokens_init P_RobotTokens_init (defScope s_RobotTokens_init) := ⟨rfl, rfl, rfl, by decide +kernel, rfl, by decide +kernel, by decide +kernel⟩
abbrev N_StepTokens_init : List Str := ["self", "label", "command", "target"]
abbrev P_StepTokens_init : List Str := ["self", "label", "command", "target"]
theorem sc_StepTokens_init : FnScope N_StepTokens_init P_StepTokens_init (defScope s_StepTokens_init) := ⟨rfl, rfl, rfl, by decide +kernel, rfl, by decide +kernel, by decide +kernel⟩
abbrev N_StepTokens_first : List Str := ["self"]
abbrev P_StepTokens_first : List Str := ["self"]
theorem sc_StepTokens_first : FnScope N_StepTokens_first P_StepTokens_first (defScope s_StepTokens_first) := ⟨rfl, rfl, rfl, by decide +kernel, rfl, by decide +kernel, by decide +kernel⟩
abbrev N_Parser_init : List Str := ["self", "tokens"]
abbrev P_Parser_init : List Str := ["self", "tokens"]
theorem sc_Parser_init : FnScope N_Parser_init P_Parser_init (defScope s_Parser_init) := ⟨rfl, rfl, rfl, by decide +kernel, rfl, by decide +kernel, by decide +kernel⟩
abbrev N_Parser_next_kind : List Str := ["self"]
abbrev P_Parser_next_kind : List Str := ["self"]
theorem sc_Parser_next_kind : FnScope N_Parser_next_kind P_Parser_next_kind (defScope s_Parser_next_kind) := ⟨rfl, rfl, rfl, by decide +kernel, rfl, by decide +kernel, by decide +kernel⟩
abbrev N_Parser_take : List Str := ["self", "kinds", "token"]
abbrev P_Parser_take : List Str := ["self", "kinds"]
theorem sc_Parser_take : FnScope N_Parser_take P_Parser_take (defScope s_Parser_take) := ⟨rfl, rfl, rfl, by decide +kernel, rfl, by decide +kernel, by decide +kernel⟩
abbrev N_Parser_take_plan : List Str := ["self", "keyword", "numbers", "robots"]
abbrev P_Parser_take_plan : List Str := ["self"]
theorem sc_Parser_take_plan : FnScope N_Parser_take_plan P_Parser_take_plan (defScope s_Parser_take_plan) := ⟨rfl, rfl, rfl, by decide +kernel, rfl, by decide +kernel, by decide +kernel⟩
abbrev N_Parser_take_robot : List Str := ["self", "start", "steps"]
abbrev P_Parser_take_robot : List Str := ["self"]
theorem sc_Parser_take_robot : FnScope N_Parser_take_robot P_Parser_take_robot (defScope s_Parser_take_robot) := ⟨rfl, rfl, rfl, by decide +kernel, rfl, by decide +kernel, by decide +kernel⟩
abbrev N_Parser_take_step : List Str := ["self", "label", "command", "target"]
abbrev P_Parser_take_step : List Str := ["self"]
theorem sc_Parser_take_step : FnScope N_Parser_take_step P_Parser_take_step (defScope s_Parser_take_step) := ⟨rfl, rfl, rfl, by decide +kernel, rfl, by decide +kernel, by decide +kernel⟩
abbrev N_parse_plan : List Str := ["text"]
abbrev P_parse_plan : List Str := ["text"]
theorem sc_parse_plan : FnScope N_parse_plan P_parse_plan (defScope s_parse_plan) := ⟨rfl, rfl, rfl, by decide +kernel, rfl, by decide +kernel, by decide +kernel⟩
abbrev N_Plan_init : List Str := ["self", "boxes", "first_cells", "steps"]
abbrev P_Plan_init : List Str := ["self", "boxes", "first_cells", "steps"]
theorem sc_Plan_init : FnScope N_Plan_init P_Plan_init (defScope s_Plan_init) := ⟨rfl, rfl, rfl, by decide +kernel, rfl, by decide +kernel, by decide +kernel⟩
abbrev N_read_plan : List Str := ["text", "tokens"]
abbrev P_read_plan : List Str := ["text"]
theorem sc_read_plan : FnScope N_read_plan P_read_plan (defScope s_read_plan) := ⟨rfl, rfl, rfl, by decide +kernel, rfl, by decide +kernel, by decide +kernel⟩
abbrev N_linked_plan : List Str := ["tokens", "boxes", "first_cells", "steps", "number", "robot"]
abbrev P_linked_plan : List Str := ["tokens"]
theorem sc_linked_plan : FnScope N_linked_plan P_linked_plan (defScope s_linked_plan) := ⟨rfl, rfl, rfl, by decide +kernel, rfl, by decide +kernel, by decide +kernel⟩
abbrev N_linked_steps : List Str := ["steps", "labels", "linked", "step", "target"]
abbrev P_linked_steps : List Str := ["steps"]
theorem sc_linked_steps : FnScope N_linked_steps P_linked_steps (defScope s_linked_steps) := ⟨rfl, rfl, rfl, by decide +kernel, rfl, by decide +kernel, by decide +kernel⟩
abbrev N_first_labels : List Str := ["steps", "labels", "number", "step"]
abbrev P_first_labels : List Str := ["steps"]
theorem sc_first_labels : FnScope N_first_labels P_first_labels (defScope s_first_labels) := ⟨rfl, rfl, rfl, by decide +kernel, rfl, by decide +kernel, by decide +kernel⟩
abbrev N_check_plan : List Str := ["tokens", "faults", "robot", "line", "column", "rank"]
abbrev P_check_plan : List Str := ["tokens"]
theorem sc_check_plan : FnScope N_check_plan P_check_plan (defScope s_check_plan) := ⟨rfl, rfl, rfl, by decide +kernel, rfl, by decide +kernel, by decide +kernel⟩
abbrev N_fault_at : List Str := ["reason", "token"]
abbrev P_fault_at : List Str := ["reason", "token"]
theorem sc_fault_at : FnScope N_fault_at P_fault_at (defScope s_fault_at) := ⟨rfl, rfl, rfl, by decide +kernel, rfl, by decide +kernel, by decide +kernel⟩
abbrev N_shelf_faults : List Str := ["tokens", "faults", "number"]
abbrev P_shelf_faults : List Str := ["tokens"]
theorem sc_shelf_faults : FnScope N_shelf_faults P_shelf_faults (defScope s_shelf_faults) := ⟨rfl, rfl, rfl, by decide +kernel, rfl, by decide +kernel, by decide +kernel⟩
abbrev N_start_faults : List Str := ["tokens", "faults", "first", "second", "start", "robot"]
abbrev P_start_faults : List Str := ["tokens"]
theorem sc_start_faults : FnScope N_start_faults P_start_faults (defScope s_start_faults) := ⟨rfl, rfl, rfl, by decide +kernel, rfl, by decide +kernel, by decide +kernel⟩
abbrev N_step_faults : List Str := ["steps", "faults", "labels", "number", "step"]
abbrev P_step_faults : List Str := ["steps"]
theorem sc_step_faults : FnScope N_step_faults P_step_faults (defScope s_step_faults) := ⟨rfl, rfl, rfl, by decide +kernel, rfl, by decide +kernel, by decide +kernel⟩
abbrev N_format_plan : List Str := ["plan"]
abbrev P_format_plan : List Str := ["plan"]
theorem sc_format_plan : FnScope N_format_plan P_format_plan (defScope s_format_plan) := ⟨rfl, rfl, rfl, by decide +kernel, rfl, by decide +kernel, by decide +kernel⟩
abbrev N_count_steps : List Str := ["plan", "first", "second"]
abbrev P_count_steps : List Str := ["plan"]
theorem sc_count_steps : FnScope N_count_steps P_count_steps (defScope s_count_steps) := ⟨rfl, rfl, rfl, by decide +kernel, rfl, by decide +kernel, by decide +kernel⟩
abbrev N_plan_text : List Str := ["plan", "shelf", "lines", "start", "steps", "number"]
abbrev P_plan_text : List Str := ["plan"]
theorem sc_plan_text : FnScope N_plan_text P_plan_text (defScope s_plan_text) := ⟨rfl, rfl, rfl, by decide +kernel, rfl, by decide +kernel, by decide +kernel⟩
abbrev N_step_lines : List Str := ["steps", "targets", "lines", "number", "word", "target", "label", "jump", "_"]
abbrev P_step_lines : List Str := ["steps"]
theorem sc_step_lines : FnScope N_step_lines P_step_lines (defScope s_step_lines) := ⟨rfl, rfl, rfl, by decide +kernel, rfl, by decide +kernel, by decide +kernel⟩
abbrev N_label_of : List Str := ["number"]
abbrev P_label_of : List Str := ["number"]
theorem sc_label_of : FnScope N_label_of P_label_of (defScope s_label_of) := ⟨rfl, rfl, rfl, by decide +kernel, rfl, by decide +kernel, by decide +kernel⟩
abbrev N__law_random : List Str := ["_law_script", "_law_salt", "_law_seed", "_law_cell"]
abbrev P__law_random : List Str := ["_law_script", "_law_salt"]
theorem sc__law_random : FnScope N__law_random P__law_random (defScope s__law_random) := ⟨rfl, rfl, rfl, by decide +kernel, rfl, by decide +kernel, by decide +kernel⟩
abbrev N__law_below : List Str := ["_law_d", "_law_limit", "_law_result"]
abbrev P__law_below : List Str := ["_law_d", "_law_limit"]
theorem sc__law_below : FnScope N__law_below P__law_below (defScope s__law_below) := ⟨rfl, rfl, rfl, by decide +kernel, rfl, by decide +kernel, by decide +kernel⟩
abbrev N__law_steps : List Str := ["_law_d", "_law_most", "_law_many", "_law_words", "_law_ways", "_law_limit", "_law_found", "_law_k", "_law_word"]
abbrev P__law_steps : List Str := ["_law_d", "_law_most"]
theorem sc__law_steps : FnScope N__law_steps P__law_steps (defScope s__law_steps) := ⟨rfl, rfl, rfl, by decide +kernel, rfl, by decide +kernel, by decide +kernel⟩
abbrev N__law_plan : List Str := ["_law_d", "_law_most", "_law_many_cells", "_law_first", "_law_second", "_law_shelf", "_law_k"]
abbrev P__law_plan : List Str := ["_law_d", "_law_most"]
theorem sc__law_plan : FnScope N__law_plan P__law_plan (defScope s__law_plan) := ⟨rfl, rfl, rfl, by decide +kernel, rfl, by decide +kernel, by decide +kernel⟩
abbrev N__law_text : List Str := ["_law_plan_here", "_law_shelf", "_law_starts", "_law_both", "_law_lines", "_law_number", "_law_goals", "_law_k", "_law_word", "_law_goal", "_law_mark", "_law_target", "_law_pieces"]
abbrev P__law_text : List Str := ["_law_plan_here"]
theorem sc__law_text : FnScope N__law_text P__law_text (defScope s__law_text) := ⟨rfl, rfl, rfl, by decide +kernel, rfl, by decide +kernel, by decide +kernel⟩
abbrev N__law_shuffled : List Str := ["_law_d", "_law_items", "_law_pool", "_law_result"]
abbrev P__law_shuffled : List Str := ["_law_d", "_law_items"]
theorem sc__law_shuffled : FnScope N__law_shuffled P__law_shuffled (defScope s__law_shuffled) := ⟨rfl, rfl, rfl, by decide +kernel, rfl, by decide +kernel, by decide +kernel⟩
abbrev N__law_equal : List Str := ["_law_actual", "_law_expected", "_law_k"]
abbrev P__law_equal : List Str := ["_law_actual", "_law_expected"]
theorem sc__law_equal : FnScope N__law_equal P__law_equal (defScope s__law_equal) := ⟨rfl, rfl, rfl, by decide +kernel, rfl, by decide +kernel, by decide +kernel⟩
abbrev N_law : List Str := ["_law_script", "_law_d", "_law_step", "_law_plan_here", "_law_text_here", "_law_names", "_law_lines", "_law_number", "_law_steps_here", "_law_goals", "_law_k", "_law_has", "_law_target", "_law_loose", "_law_sign", "_law_other", "_law_part", "_law_pieces", "_law_word", "_law_goal"]
abbrev P_law : List Str := ["_law_script"]
theorem sc_law : FnScope N_law P_law (defScope s_law) := ⟨rfl, rfl, rfl, by decide +kernel, rfl, by decide +kernel, by decide +kernel⟩
structure Txt (K : PySem.W.Frag) (mg : Str → Option Value) : Prop where
  b_abs : mg "abs" = none
  b_len : mg "len" = none
  b_isinstance : mg "isinstance" = none
  b_str : mg "str" = none
  b_int : mg "int" = none
  b_bool : mg "bool" = none
  b_list : mg "list" = none
  b_tuple : mg "tuple" = none
  b_range : mg "range" = none
  b_enumerate : mg "enumerate" = none
  b_zip : mg "zip" = none
  b_min : mg "min" = none
  b_all : mg "all" = none
  g_BotError : mg "BotError" = some (.ref (He.ga K "BotError"))
  g_SyntaxFault : mg "SyntaxFault" = some (.ref (He.ga K "SyntaxFault"))
  g_CheckFault : mg "CheckFault" = some (.ref (He.ga K "CheckFault"))
  g_Token : mg "Token" = some (.ref (He.ga K "Token"))
  c_Token : Cls K (He.ga K "Token")
  k_Token : Mk K (He.ga K "Token") (He.ma K (He.ga K "Token") "__init__")
  n_Token_column : NoAttr K (He.ga K "Token") "column"
  n_Token_kind : NoAttr K (He.ga K "Token") "kind"
  n_Token_line : NoAttr K (He.ga K "Token") "line"
  n_Token_text : NoAttr K (He.ga K "Token") "text"
  g_PlanTokens : mg "PlanTokens" = some (.ref (He.ga K "PlanTokens"))
  c_PlanTokens : Cls K (He.ga K "PlanTokens")
  k_PlanTokens : Mk K (He.ga K "PlanTokens") (He.ma K (He.ga K "PlanTokens") "__init__")
  n_PlanTokens_keyword : NoAttr K (He.ga K "PlanTokens") "keyword"
  n_PlanTokens_numbers : NoAttr K (He.ga K "PlanTokens") "numbers"
  n_PlanTokens_robots : NoAttr K (He.ga K "PlanTokens") "robots"
  g_RobotTokens : mg "RobotTokens" = some (.ref (He.ga K "RobotTokens"))
  c_RobotTokens : Cls K (He.ga K "RobotTokens")
  k_RobotTokens : Mk K (He.ga K "RobotTokens") (He.ma K (He.ga K "RobotTokens") "__init__")
  n_RobotTokens_start : NoAttr K (He.ga K "RobotTokens") "start"
  n_RobotTokens_steps : NoAttr K (He.ga K "RobotTokens") "steps"
  g_StepTokens : mg "StepTokens" = some (.ref (He.ga K "StepTokens"))
  c_StepTokens : Cls K (He.ga K "StepTokens")
  k_StepTokens : Mk K (He.ga K "StepTokens") (He.ma K (He.ga K "StepTokens") "__init__")
  n_StepTokens_command : NoAttr K (He.ga K "StepTokens") "command"
  n_StepTokens_label : NoAttr K (He.ga K "StepTokens") "label"
  n_StepTokens_target : NoAttr K (He.ga K "StepTokens") "target"
  m_StepTokens_first : Meth K (He.ga K "StepTokens") "first" (He.ma K (He.ga K "StepTokens") "first")
  g_Parser : mg "Parser" = some (.ref (He.ga K "Parser"))
  c_Parser : Cls K (He.ga K "Parser")
  k_Parser : Mk K (He.ga K "Parser") (He.ma K (He.ga K "Parser") "__init__")
  n_Parser_at : NoAttr K (He.ga K "Parser") "at"
  n_Parser_tokens : NoAttr K (He.ga K "Parser") "tokens"
  m_Parser_next_kind : Meth K (He.ga K "Parser") "next_kind" (He.ma K (He.ga K "Parser") "next_kind")
  m_Parser_take : Meth K (He.ga K "Parser") "take" (He.ma K (He.ga K "Parser") "take")
  m_Parser_take_plan : Meth K (He.ga K "Parser") "take_plan" (He.ma K (He.ga K "Parser") "take_plan")
  m_Parser_take_robot : Meth K (He.ga K "Parser") "take_robot" (He.ma K (He.ga K "Parser") "take_robot")
  m_Parser_take_step : Meth K (He.ga K "Parser") "take_step" (He.ma K (He.ga K "Parser") "take_step")
  g_Plan : mg "Plan" = some (.ref (He.ga K "Plan"))
  c_Plan : Cls K (He.ga K "Plan")
  k_Plan : Mk K (He.ga K "Plan") (He.ma K (He.ga K "Plan") "__init__")
  n_Plan_boxes : NoAttr K (He.ga K "Plan") "boxes"
  n_Plan_first_cells : NoAttr K (He.ga K "Plan") "first_cells"
  n_Plan_steps : NoAttr K (He.ga K "Plan") "steps"
  g_read_tokens : mg "read_tokens" = some (.ref (He.ga K "read_tokens"))
  g_read_row : mg "read_row" = some (.ref (He.ga K "read_row"))
  g_longest_text : mg "longest_text" = some (.ref (He.ga K "longest_text"))
  g_kind_of : mg "kind_of" = some (.ref (He.ga K "kind_of"))
  g_is_valid_number : mg "is_valid_number" = some (.ref (He.ga K "is_valid_number"))
  g_parse_plan : mg "parse_plan" = some (.ref (He.ga K "parse_plan"))
  g_read_plan : mg "read_plan" = some (.ref (He.ga K "read_plan"))
  g_linked_plan : mg "linked_plan" = some (.ref (He.ga K "linked_plan"))
  g_linked_steps : mg "linked_steps" = some (.ref (He.ga K "linked_steps"))
  g_first_labels : mg "first_labels" = some (.ref (He.ga K "first_labels"))
  g_check_plan : mg "check_plan" = some (.ref (He.ga K "check_plan"))
  g_fault_at : mg "fault_at" = some (.ref (He.ga K "fault_at"))
  g_shelf_faults : mg "shelf_faults" = some (.ref (He.ga K "shelf_faults"))
  g_start_faults : mg "start_faults" = some (.ref (He.ga K "start_faults"))
  g_step_faults : mg "step_faults" = some (.ref (He.ga K "step_faults"))
  g_format_plan : mg "format_plan" = some (.ref (He.ga K "format_plan"))
  g_count_steps : mg "count_steps" = some (.ref (He.ga K "count_steps"))
  g_plan_text : mg "plan_text" = some (.ref (He.ga K "plan_text"))
  g_step_lines : mg "step_lines" = some (.ref (He.ga K "step_lines"))
  g_label_of : mg "label_of" = some (.ref (He.ga K "label_of"))
  g__law_random : mg "_law_random" = some (.ref (He.ga K "_law_random"))
  g__law_below : mg "_law_below" = some (.ref (He.ga K "_law_below"))
  g__law_steps : mg "_law_steps" = some (.ref (He.ga K "_law_steps"))
  g__law_plan : mg "_law_plan" = some (.ref (He.ga K "_law_plan"))
  g__law_text : mg "_law_text" = some (.ref (He.ga K "_law_text"))
  g__law_shuffled : mg "_law_shuffled" = some (.ref (He.ga K "_law_shuffled"))
  g__law_equal : mg "_law_equal" = some (.ref (He.ga K "_law_equal"))
  g_law : mg "law" = some (.ref (He.ga K "law"))
  v_LETTERS : ∃ t, mg "LETTERS" = some (.str "abcdefghijklmnopqrstuvwxyz" t)
  v_DIGITS : ∃ t, mg "DIGITS" = some (.str "0123456789" t)
  g_SIGNS : mg "SIGNS" = some (.ref (He.ga K "SIGNS"))
  g_JUMPS : mg "JUMPS" = some (.ref (He.ga K "JUMPS"))
  g_COMMANDS : mg "COMMANDS" = some (.ref (He.ga K "COMMANDS"))
  g_KEYWORDS : mg "KEYWORDS" = some (.ref (He.ga K "KEYWORDS"))
  v_LONGEST_NAME : ∃ t, mg "LONGEST_NAME" = some (.int 8 t)
  v_LONGEST_NUMBER : ∃ t, mg "LONGEST_NUMBER" = some (.int 2 t)
  v_NAME : ∃ t, mg "NAME" = some (.str "name" t)
  v_NUMBER : ∃ t, mg "NUMBER" = some (.str "number" t)
  v_END : ∃ t, mg "END" = some (.str "end" t)
  v_FEWEST_CELLS : ∃ t, mg "FEWEST_CELLS" = some (.int 3 t)
  v_MOST_CELLS : ∃ t, mg "MOST_CELLS" = some (.int 12 t)
  v_MOST_BOXES : ∃ t, mg "MOST_BOXES" = some (.int 3 t)
  v_MOST_STEPS : ∃ t, mg "MOST_STEPS" = some (.int 20 t)
  g_REASONS : mg "REASONS" = some (.ref (He.ga K "REASONS"))
  v_STEP_LETTERS : ∃ t, mg "STEP_LETTERS" = some (.str "abcdefghijklmnopqrst" t)
  t_SIGNS : ∀ H : Hp, SqT K H (He.ga K "SIGNS") [.str ";", .str ":", .str "{", .str "}"]
  t_JUMPS : ∀ H : Hp, SqT K H (He.ga K "JUMPS") [.str "goto", .str "empty", .str "held"]
  t_COMMANDS : ∀ H : Hp, SqT K H (He.ga K "COMMANDS") [.str "left", .str "right", .str "pick", .str "put", .str "wait", .str "goto", .str "empty", .str "held"]
  t_KEYWORDS : ∀ H : Hp, SqT K H (He.ga K "KEYWORDS") [.str "shelf", .str "robot", .str "left", .str "right", .str "pick", .str "put", .str "wait", .str "goto", .str "empty", .str "held"]
  t_REASONS : ∀ H : Hp, SqT K H (He.ga K "REASONS") [.str "cells", .str "boxes", .str "start", .str "same", .str "steps", .str "duplicate", .str "unknown"]
  F_SyntaxFault_init : ∃ fd, FunD K "__init__" "SyntaxFault.__init__" (defArgs s_SyntaxFault_init) (defBody s_SyntaxFault_init) (defScope s_SyntaxFault_init) [] [] (He.ma K (He.ga K "SyntaxFault") "__init__") fd
  F_CheckFault_init : ∃ fd, FunD K "__init__" "CheckFault.__init__" (defArgs s_CheckFault_init) (defBody s_CheckFault_init) (defScope s_CheckFault_init) [] [] (He.ma K (He.ga K "CheckFault") "__init__") fd
  F_Token_init : ∃ fd, FunD K "__init__" "Token.__init__" (defArgs s_Token_init) (defBody s_Token_init) (defScope s_Token_init) [] [] (He.ma K (He.ga K "Token") "__init__") fd
  F_read_tokens : ∃ fd, FunD K "read_tokens" "read_tokens" (defArgs s_read_tokens) (defBody s_read_tokens) (defScope s_read_tokens) [] [] (He.ga K "read_tokens") fd
  F_read_row : ∃ fd, FunD K "read_row" "read_row" (defArgs s_read_row) (defBody s_read_row) (defScope s_read_row) [] [] (He.ga K "read_row") fd
  F_longest_text : ∃ fd, FunD K "longest_text" "longest_text" (defArgs s_longest_text) (defBody s_longest_text) (defScope s_longest_text) [] [] (He.ga K "longest_text") fd
  F_kind_of : ∃ fd, FunD K "kind_of" "kind_of" (defArgs s_kind_of) (defBody s_kind_of) (defScope s_kind_of) [] [] (He.ga K "kind_of") fd
  F_is_valid_number : ∃ fd, FunD K "is_valid_number" "is_valid_number" (defArgs s_is_valid_number) (defBody s_is_valid_number) (defScope s_is_valid_number) [] [] (He.ga K "is_valid_number") fd
  F_PlanTokens_init : ∃ fd, FunD K "__init__" "PlanTokens.__init__" (defArgs s_PlanTokens_init) (defBody s_PlanTokens_init) (defScope s_PlanTokens_init) [] [] (He.ma K (He.ga K "PlanTokens") "__init__") fd
  F_RobotTokens_init : ∃ fd, FunD K "__init__" "RobotTokens.__init__" (defArgs s_RobotTokens_init) (defBody s_RobotTokens_init) (defScope s_RobotTokens_init) [] [] (He.ma K (He.ga K "RobotTokens") "__init__") fd
  F_StepTokens_init : ∃ fd, FunD K "__init__" "StepTokens.__init__" (defArgs s_StepTokens_init) (defBody s_StepTokens_init) (defScope s_StepTokens_init) [] [] (He.ma K (He.ga K "StepTokens") "__init__") fd
  F_StepTokens_first : ∃ fd, FunD K "first" "StepTokens.first" (defArgs s_StepTokens_first) (defBody s_StepTokens_first) (defScope s_StepTokens_first) [] [] (He.ma K (He.ga K "StepTokens") "first") fd
  F_Parser_init : ∃ fd, FunD K "__init__" "Parser.__init__" (defArgs s_Parser_init) (defBody s_Parser_init) (defScope s_Parser_init) [] [] (He.ma K (He.ga K "Parser") "__init__") fd
  F_Parser_next_kind : ∃ fd, FunD K "next_kind" "Parser.next_kind" (defArgs s_Parser_next_kind) (defBody s_Parser_next_kind) (defScope s_Parser_next_kind) [] [] (He.ma K (He.ga K "Parser") "next_kind") fd
  F_Parser_take : ∃ fd, FunD K "take" "Parser.take" (defArgs s_Parser_take) (defBody s_Parser_take) (defScope s_Parser_take) [] [] (He.ma K (He.ga K "Parser") "take") fd
  F_Parser_take_plan : ∃ fd, FunD K "take_plan" "Parser.take_plan" (defArgs s_Parser_take_plan) (defBody s_Parser_take_plan) (defScope s_Parser_take_plan) [] [] (He.ma K (He.ga K "Parser") "take_plan") fd
  F_Parser_take_robot : ∃ fd, FunD K "take_robot" "Parser.take_robot" (defArgs s_Parser_take_robot) (defBody s_Parser_take_robot) (defScope s_Parser_take_robot) [] [] (He.ma K (He.ga K "Parser") "take_robot") fd
  F_Parser_take_step : ∃ fd, FunD K "take_step" "Parser.take_step" (defArgs s_Parser_take_step) (defBody s_Parser_take_step) (defScope s_Parser_take_step) [] [] (He.ma K (He.ga K "Parser") "take_step") fd
  F_parse_plan : ∃ fd, FunD K "parse_plan" "parse_plan" (defArgs s_parse_plan) (defBody s_parse_plan) (defScope s_parse_plan) [] [] (He.ga K "parse_plan") fd
  F_Plan_init : ∃ fd, FunD K "__init__" "Plan.__init__" (defArgs s_Plan_init) (defBody s_Plan_init) (defScope s_Plan_init) [] [] (He.ma K (He.ga K "Plan") "__init__") fd
  F_read_plan : ∃ fd, FunD K "read_plan" "read_plan" (defArgs s_read_plan) (defBody s_read_plan) (defScope s_read_plan) [] [] (He.ga K "read_plan") fd
  F_linked_plan : ∃ fd, FunD K "linked_plan" "linked_plan" (defArgs s_linked_plan) (defBody s_linked_plan) (defScope s_linked_plan) [] [] (He.ga K "linked_plan") fd
  F_linked_steps : ∃ fd, FunD K "linked_steps" "linked_steps" (defArgs s_linked_steps) (defBody s_linked_steps) (defScope s_linked_steps) [] [] (He.ga K "linked_steps") fd
  F_first_labels : ∃ fd, FunD K "first_labels" "first_labels" (defArgs s_first_labels) (defBody s_first_labels) (defScope s_first_labels) [] [] (He.ga K "first_labels") fd
  F_check_plan : ∃ fd, FunD K "check_plan" "check_plan" (defArgs s_check_plan) (defBody s_check_plan) (defScope s_check_plan) [] [] (He.ga K "check_plan") fd
  F_fault_at : ∃ fd, FunD K "fault_at" "fault_at" (defArgs s_fault_at) (defBody s_fault_at) (defScope s_fault_at) [] [] (He.ga K "fault_at") fd
  F_shelf_faults : ∃ fd, FunD K "shelf_faults" "shelf_faults" (defArgs s_shelf_faults) (defBody s_shelf_faults) (defScope s_shelf_faults) [] [] (He.ga K "shelf_faults") fd
  F_start_faults : ∃ fd, FunD K "start_faults" "start_faults" (defArgs s_start_faults) (defBody s_start_faults) (defScope s_start_faults) [] [] (He.ga K "start_faults") fd
  F_step_faults : ∃ fd, FunD K "step_faults" "step_faults" (defArgs s_step_faults) (defBody s_step_faults) (defScope s_step_faults) [] [] (He.ga K "step_faults") fd
  F_format_plan : ∃ fd, FunD K "format_plan" "format_plan" (defArgs s_format_plan) (defBody s_format_plan) (defScope s_format_plan) [] [] (He.ga K "format_plan") fd
  F_count_steps : ∃ fd, FunD K "count_steps" "count_steps" (defArgs s_count_steps) (defBody s_count_steps) (defScope s_count_steps) [] [] (He.ga K "count_steps") fd
  F_plan_text : ∃ fd, FunD K "plan_text" "plan_text" (defArgs s_plan_text) (defBody s_plan_text) (defScope s_plan_text) [] [] (He.ga K "plan_text") fd
  F_step_lines : ∃ fd, FunD K "step_lines" "step_lines" (defArgs s_step_lines) (defBody s_step_lines) (defScope s_step_lines) [] [] (He.ga K "step_lines") fd
  F_label_of : ∃ fd, FunD K "label_of" "label_of" (defArgs s_label_of) (defBody s_label_of) (defScope s_label_of) [] [] (He.ga K "label_of") fd
  F__law_random : ∃ fd, FunD K "_law_random" "_law_random" (defArgs s__law_random) (defBody s__law_random) (defScope s__law_random) [] [] (He.ga K "_law_random") fd
  F__law_below : ∃ fd, FunD K "_law_below" "_law_below" (defArgs s__law_below) (defBody s__law_below) (defScope s__law_below) [] [] (He.ga K "_law_below") fd
  F__law_steps : ∃ fd, FunD K "_law_steps" "_law_steps" (defArgs s__law_steps) (defBody s__law_steps) (defScope s__law_steps) [] [] (He.ga K "_law_steps") fd
  F__law_plan : ∃ fd, FunD K "_law_plan" "_law_plan" (defArgs s__law_plan) (defBody s__law_plan) (defScope s__law_plan) [] [] (He.ga K "_law_plan") fd
  F__law_text : ∃ fd, FunD K "_law_text" "_law_text" (defArgs s__law_text) (defBody s__law_text) (defScope s__law_text) [] [] (He.ga K "_law_text") fd
  F__law_shuffled : ∃ fd, FunD K "_law_shuffled" "_law_shuffled" (defArgs s__law_shuffled) (defBody s__law_shuffled) (defScope s__law_shuffled) [] [] (He.ga K "_law_shuffled") fd
  F__law_equal : ∃ fd, FunD K "_law_equal" "_law_equal" (defArgs s__law_equal) (defBody s__law_equal) (defScope s__law_equal) [] [] (He.ga K "_law_equal") fd
  F_law : ∃ fd, FunD K "law" "law" (defArgs s_law) (defBody s_law) (defScope s_law) [] [] (He.ga K "law") fd
  x_SyntaxFault : OexC K (He.ga K "SyntaxFault")
  i_SyntaxFault : PySem.W.findIn K (.ref (He.ga K "SyntaxFault")) "__init__" = some (some (.ref (He.ma K (He.ga K "SyntaxFault") "__init__")))
  ti_SyntaxFault : PySem.W.typeIn K (.ref (He.ma K (He.ga K "SyntaxFault") "__init__")) = some (.type "function")
  na_SyntaxFault_column : PySem.W.findIn K (.ref (He.ga K "SyntaxFault")) "column" = some none
  na_SyntaxFault_line : PySem.W.findIn K (.ref (He.ga K "SyntaxFault")) "line" = some none
  rd_BotError : ClX.CRead K (He.ga K "BotError") (.type "type") ∧ PySem.W.findCls K (.ref (He.ga K "BotError")) (.type "type") "__init__" = some (.val (.builtin "ValueError.__init__"))
  x_CheckFault : OexC K (He.ga K "CheckFault")
  i_CheckFault : PySem.W.findIn K (.ref (He.ga K "CheckFault")) "__init__" = some (some (.ref (He.ma K (He.ga K "CheckFault") "__init__")))
  ti_CheckFault : PySem.W.typeIn K (.ref (He.ma K (He.ga K "CheckFault") "__init__")) = some (.type "function")
  na_CheckFault_column : PySem.W.findIn K (.ref (He.ga K "CheckFault")) "column" = some none
  na_CheckFault_line : PySem.W.findIn K (.ref (He.ga K "CheckFault")) "line" = some none
  na_CheckFault_reason : PySem.W.findIn K (.ref (He.ga K "CheckFault")) "reason" = some none
  bm_Parser_take : BMeth K (He.ga K "Parser") "take" (He.ma K (He.ga K "Parser") "take")
end SB

set_option maxHeartbeats 0
namespace SB
open PySem PySem.Spec PyProof.Rows L2
def fa : List He.Fa := [.free "abs", .free "len", .free "isinstance", .free "str", .free "int", .free "bool", .free "list", .free "tuple", .free "range", .free "enumerate", .free "zip", .free "min", .free "all", .glo "BotError", .glo "SyntaxFault", .glo "CheckFault", .glo "Token", .cls "Token", .mkr "Token", .noat "Token" "column", .noat "Token" "kind", .noat "Token" "line", .noat "Token" "text", .glo "PlanTokens", .cls "PlanTokens", .mkr "PlanTokens", .noat "PlanTokens" "keyword", .noat "PlanTokens" "numbers", .noat "PlanTokens" "robots", .glo "RobotTokens", .cls "RobotTokens", .mkr "RobotTokens", .noat "RobotTokens" "start", .noat "RobotTokens" "steps", .glo "StepTokens", .cls "StepTokens", .mkr "StepTokens", .noat "StepTokens" "command", .noat "StepTokens" "label", .noat "StepTokens" "target", .meth "StepTokens" "first", .glo "Parser", .cls "Parser", .mkr "Parser", .noat "Parser" "at", .noat "Parser" "tokens", .meth "Parser" "next_kind", .meth "Parser" "take", .meth "Parser" "take_plan", .meth "Parser" "take_robot", .meth "Parser" "take_step", .glo "Plan", .cls "Plan", .mkr "Plan", .noat "Plan" "boxes", .noat "Plan" "first_cells", .noat "Plan" "steps", .glo "read_tokens", .glo "read_row", .glo "longest_text", .glo "kind_of", .glo "is_valid_number", .glo "parse_plan", .glo "read_plan", .glo "linked_plan", .glo "linked_steps", .glo "first_labels", .glo "check_plan", .glo "fault_at", .glo "shelf_faults", .glo "start_faults", .glo "step_faults", .glo "format_plan", .glo "count_steps", .glo "plan_text", .glo "step_lines", .glo "label_of", .glo "_law_random", .glo "_law_below", .glo "_law_steps", .glo "_law_plan", .glo "_law_text", .glo "_law_shuffled", .glo "_law_equal", .glo "law", .str "LETTERS" "abcdefghijklmnopqrstuvwxyz", .str "DIGITS" "0123456789", .glo "SIGNS", .glo "JUMPS", .glo "COMMANDS", .glo "KEYWORDS", .int "LONGEST_NAME" 8, .int "LONGEST_NUMBER" 2, .str "NAME" "name", .str "NUMBER" "number", .str "END" "end", .int "FEWEST_CELLS" 3, .int "MOST_CELLS" 12, .int "MOST_BOXES" 3, .int "MOST_STEPS" 20, .glo "REASONS", .str "STEP_LETTERS" "abcdefghijklmnopqrst"]
def d_SyntaxFault_init : He.DefD := ⟨("SyntaxFault", some "__init__"), "__init__", "SyntaxFault.__init__", defArgs s_SyntaxFault_init, defBody s_SyntaxFault_init, defScope s_SyntaxFault_init, [], []⟩
def d_CheckFault_init : He.DefD := ⟨("CheckFault", some "__init__"), "__init__", "CheckFault.__init__", defArgs s_CheckFault_init, defBody s_CheckFault_init, defScope s_CheckFault_init, [], []⟩
def d_Token_init : He.DefD := ⟨("Token", some "__init__"), "__init__", "Token.__init__", defArgs s_Token_init, defBody s_Token_init, defScope s_Token_init, [], []⟩
def d_read_tokens : He.DefD := ⟨("read_tokens", none), "read_tokens", "read_tokens", defArgs s_read_tokens, defBody s_read_tokens, defScope s_read_tokens, [], []⟩
def d_read_row : He.DefD := ⟨("read_row", none), "read_row", "read_row", defArgs s_read_row, defBody s_read_row, defScope s_read_row, [], []⟩
def d_longest_text : He.DefD := ⟨("longest_text", none), "longest_text", "longest_text", defArgs s_longest_text, defBody s_longest_text, defScope s_longest_text, [], []⟩
def d_kind_of : He.DefD := ⟨("kind_of", none), "kind_of", "kind_of", defArgs s_kind_of, defBody s_kind_of, defScope s_kind_of, [], []⟩
def d_is_valid_number : He.DefD := ⟨("is_valid_number", none), "is_valid_number", "is_valid_number", defArgs s_is_valid_number, defBody s_is_valid_number, defScope s_is_valid_number, [], []⟩
def d_PlanTokens_init : He.DefD := ⟨("PlanTokens", some "__init__"), "__init__", "PlanTokens.__init__", defArgs s_PlanTokens_init, defBody s_PlanTokens_init, defScope s_PlanTokens_init, [], []⟩
def d_RobotTokens_init : He.DefD := ⟨("RobotTokens", some "__init__"), "__init__", "RobotTokens.__init__", defArgs s_RobotTokens_init, defBody s_RobotTokens_init, defScope s_RobotTokens_init, [], []⟩
def d_StepTokens_init : He.DefD := ⟨("StepTokens", some "__init__"), "__init__", "StepTokens.__init__", defArgs s_StepTokens_init, defBody s_StepTokens_init, defScope s_StepTokens_init, [], []⟩
def d_StepTokens_first : He.DefD := ⟨("StepTokens", some "first"), "first", "StepTokens.first", defArgs s_StepTokens_first, defBody s_StepTokens_first, defScope s_StepTokens_first, [], []⟩
def d_Parser_init : He.DefD := ⟨("Parser", some "__init__"), "__init__", "Parser.__init__", defArgs s_Parser_init, defBody s_Parser_init, defScope s_Parser_init, [], []⟩
def d_Parser_next_kind : He.DefD := ⟨("Parser", some "next_kind"), "next_kind", "Parser.next_kind", defArgs s_Parser_next_kind, defBody s_Parser_next_kind, defScope s_Parser_next_kind, [], []⟩
def d_Parser_take : He.DefD := ⟨("Parser", some "take"), "take", "Parser.take", defArgs s_Parser_take, defBody s_Parser_take, defScope s_Parser_take, [], []⟩
def d_Parser_take_plan : He.DefD := ⟨("Parser", some "take_plan"), "take_plan", "Parser.take_plan", defArgs s_Parser_take_plan, defBody s_Parser_take_plan, defScope s_Parser_take_plan, [], []⟩
def d_Parser_take_robot : He.DefD := ⟨("Parser", some "take_robot"), "take_robot", "Parser.take_robot", defArgs s_Parser_take_robot, defBody s_Parser_take_robot, defScope s_Parser_take_robot, [], []⟩
def d_Parser_take_step : He.DefD := ⟨("Parser", some "take_step"), "take_step", "Parser.take_step", defArgs s_Parser_take_step, defBody s_Parser_take_step, defScope s_Parser_take_step, [], []⟩
def d_parse_plan : He.DefD := ⟨("parse_plan", none), "parse_plan", "parse_plan", defArgs s_parse_plan, defBody s_parse_plan, defScope s_parse_plan, [], []⟩
def d_Plan_init : He.DefD := ⟨("Plan", some "__init__"), "__init__", "Plan.__init__", defArgs s_Plan_init, defBody s_Plan_init, defScope s_Plan_init, [], []⟩
def d_read_plan : He.DefD := ⟨("read_plan", none), "read_plan", "read_plan", defArgs s_read_plan, defBody s_read_plan, defScope s_read_plan, [], []⟩
def d_linked_plan : He.DefD := ⟨("linked_plan", none), "linked_plan", "linked_plan", defArgs s_linked_plan, defBody s_linked_plan, defScope s_linked_plan, [], []⟩
def d_linked_steps : He.DefD := ⟨("linked_steps", none), "linked_steps", "linked_steps", defArgs s_linked_steps, defBody s_linked_steps, defScope s_linked_steps, [], []⟩
def d_first_labels : He.DefD := ⟨("first_labels", none), "first_labels", "first_labels", defArgs s_first_labels, defBody s_first_labels, defScope s_first_labels, [], []⟩
def d_check_plan : He.DefD := ⟨("check_plan", none), "check_plan", "check_plan", defArgs s_check_plan, defBody s_check_plan, defScope s_check_plan, [], []⟩
def d_fault_at : He.DefD := ⟨("fault_at", none), "fault_at", "fault_at", defArgs s_fault_at, defBody s_fault_at, defScope s_fault_at, [], []⟩
def d_shelf_faults : He.DefD := ⟨("shelf_faults", none), "shelf_faults", "shelf_faults", defArgs s_shelf_faults, defBody s_shelf_faults, defScope s_shelf_faults, [], []⟩
def d_start_faults : He.DefD := ⟨("start_faults", none), "start_faults", "start_faults", defArgs s_start_faults, defBody s_start_faults, defScope s_start_faults, [], []⟩
def d_step_faults : He.DefD := ⟨("step_faults", none), "step_faults", "step_faults", defArgs s_step_faults, defBody s_step_faults, defScope s_step_faults, [], []⟩
def d_format_plan : He.DefD := ⟨("format_plan", none), "format_plan", "format_plan", defArgs s_format_plan, defBody s_format_plan, defScope s_format_plan, [], []⟩
def d_count_steps : He.DefD := ⟨("count_steps", none), "count_steps", "count_steps", defArgs s_count_steps, defBody s_count_steps, defScope s_count_steps, [], []⟩
def d_plan_text : He.DefD := ⟨("plan_text", none), "plan_text", "plan_text", defArgs s_plan_text, defBody s_plan_text, defScope s_plan_text, [], []⟩
def d_step_lines : He.DefD := ⟨("step_lines", none), "step_lines", "step_lines", defArgs s_step_lines, defBody s_step_lines, defScope s_step_lines, [], []⟩
def d_label_of : He.DefD := ⟨("label_of", none), "label_of", "label_of", defArgs s_label_of, defBody s_label_of, defScope s_label_of, [], []⟩
def d__law_random : He.DefD := ⟨("_law_random", none), "_law_random", "_law_random", defArgs s__law_random, defBody s__law_random, defScope s__law_random, [], []⟩
def d__law_below : He.DefD := ⟨("_law_below", none), "_law_below", "_law_below", defArgs s__law_below, defBody s__law_below, defScope s__law_below, [], []⟩
def d__law_steps : He.DefD := ⟨("_law_steps", none), "_law_steps", "_law_steps", defArgs s__law_steps, defBody s__law_steps, defScope s__law_steps, [], []⟩
def d__law_plan : He.DefD := ⟨("_law_plan", none), "_law_plan", "_law_plan", defArgs s__law_plan, defBody s__law_plan, defScope s__law_plan, [], []⟩
def d__law_text : He.DefD := ⟨("_law_text", none), "_law_text", "_law_text", defArgs s__law_text, defBody s__law_text, defScope s__law_text, [], []⟩
def d__law_shuffled : He.DefD := ⟨("_law_shuffled", none), "_law_shuffled", "_law_shuffled", defArgs s__law_shuffled, defBody s__law_shuffled, defScope s__law_shuffled, [], []⟩
def d__law_equal : He.DefD := ⟨("_law_equal", none), "_law_equal", "_law_equal", defArgs s__law_equal, defBody s__law_equal, defScope s__law_equal, [], []⟩
def d_law : He.DefD := ⟨("law", none), "law", "law", defArgs s_law, defBody s_law, defScope s_law, [], []⟩
def fn : List He.DefD := [d_SyntaxFault_init, d_CheckFault_init, d_Token_init, d_read_tokens, d_read_row, d_longest_text, d_kind_of, d_is_valid_number, d_PlanTokens_init, d_RobotTokens_init, d_StepTokens_init, d_StepTokens_first, d_Parser_init, d_Parser_next_kind, d_Parser_take, d_Parser_take_plan, d_Parser_take_robot, d_Parser_take_step, d_parse_plan, d_Plan_init, d_read_plan, d_linked_plan, d_linked_steps, d_first_labels, d_check_plan, d_fault_at, d_shelf_faults, d_start_faults, d_step_faults, d_format_plan, d_count_steps, d_plan_text, d_step_lines, d_label_of, d__law_random, d__law_below, d__law_steps, d__law_plan, d__law_text, d__law_shuffled, d__law_equal, d_law]
def ex (K : PySem.W.Frag) : Bool := He.tupB K "SIGNS" [.str ";", .str ":", .str "{", .str "}"] && (He.tupB K "JUMPS" [.str "goto", .str "empty", .str "held"] && (He.tupB K "COMMANDS" [.str "left", .str "right", .str "pick", .str "put", .str "wait", .str "goto", .str "empty", .str "held"] && (He.tupB K "KEYWORDS" [.str "shelf", .str "robot", .str "left", .str "right", .str "pick", .str "put", .str "wait", .str "goto", .str "empty", .str "held"] && (He.tupB K "REASONS" [.str "cells", .str "boxes", .str "start", .str "same", .str "steps", .str "duplicate", .str "unknown"] && ((He.eqO (PySem.W.specialIn K (.ref (He.ma K (He.ga K "Parser") "take")) "__get__") (some (some (.builtin "function.__get__"))) && (decide (PySem.W.takesIn K (.ref (He.ma K (He.ga K "Parser") "take")) = some false) && PySem.W.fnIn K (He.ma K (He.ga K "Parser") "take"))) && ((oexB K (He.ga K "SyntaxFault")) && ((He.eqO (PySem.W.findIn K (.ref (He.ga K "SyntaxFault")) "__init__") (some (some (.ref (He.ma K (He.ga K "SyntaxFault") "__init__"))))) && ((decide (PySem.W.typeIn K (.ref (He.ma K (He.ga K "SyntaxFault") "__init__")) = some (.type "function"))) && ((He.eqO (PySem.W.findIn K (.ref (He.ga K "SyntaxFault")) "column") (some none)) && ((He.eqO (PySem.W.findIn K (.ref (He.ga K "SyntaxFault")) "line") (some none)) && ((binitB K (He.ga K "BotError")) && ((oexB K (He.ga K "CheckFault")) && ((He.eqO (PySem.W.findIn K (.ref (He.ga K "CheckFault")) "__init__") (some (some (.ref (He.ma K (He.ga K "CheckFault") "__init__"))))) && ((decide (PySem.W.typeIn K (.ref (He.ma K (He.ga K "CheckFault") "__init__")) = some (.type "function"))) && ((He.eqO (PySem.W.findIn K (.ref (He.ga K "CheckFault")) "column") (some none)) && ((He.eqO (PySem.W.findIn K (.ref (He.ga K "CheckFault")) "line") (some none)) && ((He.eqO (PySem.W.findIn K (.ref (He.ga K "CheckFault")) "reason") (some none)))))))))))))))))))
def loose0 : List Str := [("BotError" : Str), ("SyntaxFault" : Str), ("CheckFault" : Str), ("LETTERS" : Str), ("DIGITS" : Str), ("SIGNS" : Str), ("JUMPS" : Str), ("COMMANDS" : Str), ("KEYWORDS" : Str), ("LONGEST_NAME" : Str), ("LONGEST_NUMBER" : Str), ("NAME" : Str), ("NUMBER" : Str), ("END" : Str), ("Token" : Str), ("read_tokens" : Str), ("read_row" : Str), ("longest_text" : Str), ("kind_of" : Str), ("is_valid_number" : Str), ("PlanTokens" : Str), ("RobotTokens" : Str), ("StepTokens" : Str), ("Parser" : Str), ("parse_plan" : Str), ("FEWEST_CELLS" : Str), ("MOST_CELLS" : Str), ("MOST_BOXES" : Str), ("MOST_STEPS" : Str), ("REASONS" : Str)]
def loose1 : List Str := [("Plan" : Str), ("read_plan" : Str), ("linked_plan" : Str), ("linked_steps" : Str), ("first_labels" : Str), ("check_plan" : Str), ("fault_at" : Str), ("shelf_faults" : Str), ("start_faults" : Str), ("step_faults" : Str), ("STEP_LETTERS" : Str), ("format_plan" : Str), ("count_steps" : Str), ("plan_text" : Str), ("step_lines" : Str), ("label_of" : Str), ("_law_random" : Str), ("_law_below" : Str), ("_law_steps" : Str), ("_law_plan" : Str), ("_law_text" : Str), ("_law_shuffled" : Str), ("_law_equal" : Str)]
def loose : List Str := loose0 ++ loose1
abbrev R : PySem.W.OpenRow := PySem.W.OpenLaw.row PySem.Challenge.rw_shelfbots_k03_canonical_plans
abbrev hk : PySem.W.Hook := hookS 6 [mainGlobals, PySem.cStatics] fa fn [] ex
def ob (s : PySem.W.SharedT) : He.AlX := seeS 6 [mainGlobals, PySem.cStatics] fa fn [] ex (HandSHeadRun.getT s)
theorem ob_eq (s : PySem.W.SharedT) : ob s = hk.obs s.abs := seeS_eq (HandSHeadRun.getT_eq s)
theorem run (w : World) : HandSHeadRun.RunEq R (PySem.W.view R.prog [59]) hk ob 20000 loose w := by
  intro os
  kernel_rfl
theorem txt {w : World} {h : Heap} {K : PySem.W.Frag} {mg : Str → Option Value} (KX : K.In h) (G : h.Ns mainGlobals mg) (z : He.SaysX fa fn [] [] ex w h K) : Txt K mg := by
  have c := z.t.d
  have e := z.more
  unfold ex at e
  obtain ⟨e0, e⟩ := He.ba e
  obtain ⟨e1, e⟩ := He.ba e
  obtain ⟨e2, e⟩ := He.ba e
  obtain ⟨e3, e⟩ := He.ba e
  obtain ⟨e4, e⟩ := He.ba e
  obtain ⟨e5, e⟩ := He.ba e
  obtain ⟨e6, e⟩ := He.ba e
  obtain ⟨e7, e⟩ := He.ba e
  obtain ⟨e8, e⟩ := He.ba e
  obtain ⟨e9, e⟩ := He.ba e
  obtain ⟨e10, e⟩ := He.ba e
  obtain ⟨e11, e⟩ := He.ba e
  obtain ⟨e12, e⟩ := He.ba e
  obtain ⟨e13, e⟩ := He.ba e
  obtain ⟨e14, e⟩ := He.ba e
  obtain ⟨e15, e⟩ := He.ba e
  obtain ⟨e16, e⟩ := He.ba e
  exact {
    b_abs := He.free_ok KX G (c.fact 0 rfl)
    b_len := He.free_ok KX G (c.fact 1 rfl)
    b_isinstance := He.free_ok KX G (c.fact 2 rfl)
    b_str := He.free_ok KX G (c.fact 3 rfl)
    b_int := He.free_ok KX G (c.fact 4 rfl)
    b_bool := He.free_ok KX G (c.fact 5 rfl)
    b_list := He.free_ok KX G (c.fact 6 rfl)
    b_tuple := He.free_ok KX G (c.fact 7 rfl)
    b_range := He.free_ok KX G (c.fact 8 rfl)
    b_enumerate := He.free_ok KX G (c.fact 9 rfl)
    b_zip := He.free_ok KX G (c.fact 10 rfl)
    b_min := He.free_ok KX G (c.fact 11 rfl)
    b_all := He.free_ok KX G (c.fact 12 rfl)
    g_BotError := He.glo_ok KX G (c.fact 13 rfl)
    g_SyntaxFault := He.glo_ok KX G (c.fact 14 rfl)
    g_CheckFault := He.glo_ok KX G (c.fact 15 rfl)
    g_Token := He.glo_ok KX G (c.fact 16 rfl)
    c_Token := He.cls_ok (c.fact 17 rfl)
    k_Token := He.mkr_ok (c.fact 18 rfl)
    n_Token_column := He.noat_ok (c.fact 19 rfl)
    n_Token_kind := He.noat_ok (c.fact 20 rfl)
    n_Token_line := He.noat_ok (c.fact 21 rfl)
    n_Token_text := He.noat_ok (c.fact 22 rfl)
    g_PlanTokens := He.glo_ok KX G (c.fact 23 rfl)
    c_PlanTokens := He.cls_ok (c.fact 24 rfl)
    k_PlanTokens := He.mkr_ok (c.fact 25 rfl)
    n_PlanTokens_keyword := He.noat_ok (c.fact 26 rfl)
    n_PlanTokens_numbers := He.noat_ok (c.fact 27 rfl)
    n_PlanTokens_robots := He.noat_ok (c.fact 28 rfl)
    g_RobotTokens := He.glo_ok KX G (c.fact 29 rfl)
    c_RobotTokens := He.cls_ok (c.fact 30 rfl)
    k_RobotTokens := He.mkr_ok (c.fact 31 rfl)
    n_RobotTokens_start := He.noat_ok (c.fact 32 rfl)
    n_RobotTokens_steps := He.noat_ok (c.fact 33 rfl)
    g_StepTokens := He.glo_ok KX G (c.fact 34 rfl)
    c_StepTokens := He.cls_ok (c.fact 35 rfl)
    k_StepTokens := He.mkr_ok (c.fact 36 rfl)
    n_StepTokens_command := He.noat_ok (c.fact 37 rfl)
    n_StepTokens_label := He.noat_ok (c.fact 38 rfl)
    n_StepTokens_target := He.noat_ok (c.fact 39 rfl)
    m_StepTokens_first := He.meth_ok (c.fact 40 rfl)
    g_Parser := He.glo_ok KX G (c.fact 41 rfl)
    c_Parser := He.cls_ok (c.fact 42 rfl)
    k_Parser := He.mkr_ok (c.fact 43 rfl)
    n_Parser_at := He.noat_ok (c.fact 44 rfl)
    n_Parser_tokens := He.noat_ok (c.fact 45 rfl)
    m_Parser_next_kind := He.meth_ok (c.fact 46 rfl)
    m_Parser_take := He.meth_ok (c.fact 47 rfl)
    m_Parser_take_plan := He.meth_ok (c.fact 48 rfl)
    m_Parser_take_robot := He.meth_ok (c.fact 49 rfl)
    m_Parser_take_step := He.meth_ok (c.fact 50 rfl)
    g_Plan := He.glo_ok KX G (c.fact 51 rfl)
    c_Plan := He.cls_ok (c.fact 52 rfl)
    k_Plan := He.mkr_ok (c.fact 53 rfl)
    n_Plan_boxes := He.noat_ok (c.fact 54 rfl)
    n_Plan_first_cells := He.noat_ok (c.fact 55 rfl)
    n_Plan_steps := He.noat_ok (c.fact 56 rfl)
    g_read_tokens := He.glo_ok KX G (c.fact 57 rfl)
    g_read_row := He.glo_ok KX G (c.fact 58 rfl)
    g_longest_text := He.glo_ok KX G (c.fact 59 rfl)
    g_kind_of := He.glo_ok KX G (c.fact 60 rfl)
    g_is_valid_number := He.glo_ok KX G (c.fact 61 rfl)
    g_parse_plan := He.glo_ok KX G (c.fact 62 rfl)
    g_read_plan := He.glo_ok KX G (c.fact 63 rfl)
    g_linked_plan := He.glo_ok KX G (c.fact 64 rfl)
    g_linked_steps := He.glo_ok KX G (c.fact 65 rfl)
    g_first_labels := He.glo_ok KX G (c.fact 66 rfl)
    g_check_plan := He.glo_ok KX G (c.fact 67 rfl)
    g_fault_at := He.glo_ok KX G (c.fact 68 rfl)
    g_shelf_faults := He.glo_ok KX G (c.fact 69 rfl)
    g_start_faults := He.glo_ok KX G (c.fact 70 rfl)
    g_step_faults := He.glo_ok KX G (c.fact 71 rfl)
    g_format_plan := He.glo_ok KX G (c.fact 72 rfl)
    g_count_steps := He.glo_ok KX G (c.fact 73 rfl)
    g_plan_text := He.glo_ok KX G (c.fact 74 rfl)
    g_step_lines := He.glo_ok KX G (c.fact 75 rfl)
    g_label_of := He.glo_ok KX G (c.fact 76 rfl)
    g__law_random := He.glo_ok KX G (c.fact 77 rfl)
    g__law_below := He.glo_ok KX G (c.fact 78 rfl)
    g__law_steps := He.glo_ok KX G (c.fact 79 rfl)
    g__law_plan := He.glo_ok KX G (c.fact 80 rfl)
    g__law_text := He.glo_ok KX G (c.fact 81 rfl)
    g__law_shuffled := He.glo_ok KX G (c.fact 82 rfl)
    g__law_equal := He.glo_ok KX G (c.fact 83 rfl)
    g_law := He.glo_ok KX G (c.fact 84 rfl)
    v_LETTERS := He.str_ok KX G (c.fact 85 rfl)
    v_DIGITS := He.str_ok KX G (c.fact 86 rfl)
    g_SIGNS := He.glo_ok KX G (c.fact 87 rfl)
    g_JUMPS := He.glo_ok KX G (c.fact 88 rfl)
    g_COMMANDS := He.glo_ok KX G (c.fact 89 rfl)
    g_KEYWORDS := He.glo_ok KX G (c.fact 90 rfl)
    v_LONGEST_NAME := He.int_ok KX G (c.fact 91 rfl)
    v_LONGEST_NUMBER := He.int_ok KX G (c.fact 92 rfl)
    v_NAME := He.str_ok KX G (c.fact 93 rfl)
    v_NUMBER := He.str_ok KX G (c.fact 94 rfl)
    v_END := He.str_ok KX G (c.fact 95 rfl)
    v_FEWEST_CELLS := He.int_ok KX G (c.fact 96 rfl)
    v_MOST_CELLS := He.int_ok KX G (c.fact 97 rfl)
    v_MOST_BOXES := He.int_ok KX G (c.fact 98 rfl)
    v_MOST_STEPS := He.int_ok KX G (c.fact 99 rfl)
    g_REASONS := He.glo_ok KX G (c.fact 100 rfl)
    v_STEP_LETTERS := He.str_ok KX G (c.fact 101 rfl)
    t_SIGNS := He.tupB_ok e0
    t_JUMPS := He.tupB_ok e1
    t_COMMANDS := He.tupB_ok e2
    t_KEYWORDS := He.tupB_ok e3
    t_REASONS := He.tupB_ok e4
    F_SyntaxFault_init := c.def_ 0 (d := d_SyntaxFault_init) rfl
    F_CheckFault_init := c.def_ 1 (d := d_CheckFault_init) rfl
    F_Token_init := c.def_ 2 (d := d_Token_init) rfl
    F_read_tokens := c.def_ 3 (d := d_read_tokens) rfl
    F_read_row := c.def_ 4 (d := d_read_row) rfl
    F_longest_text := c.def_ 5 (d := d_longest_text) rfl
    F_kind_of := c.def_ 6 (d := d_kind_of) rfl
    F_is_valid_number := c.def_ 7 (d := d_is_valid_number) rfl
    F_PlanTokens_init := c.def_ 8 (d := d_PlanTokens_init) rfl
    F_RobotTokens_init := c.def_ 9 (d := d_RobotTokens_init) rfl
    F_StepTokens_init := c.def_ 10 (d := d_StepTokens_init) rfl
    F_StepTokens_first := c.def_ 11 (d := d_StepTokens_first) rfl
    F_Parser_init := c.def_ 12 (d := d_Parser_init) rfl
    F_Parser_next_kind := c.def_ 13 (d := d_Parser_next_kind) rfl
    F_Parser_take := c.def_ 14 (d := d_Parser_take) rfl
    F_Parser_take_plan := c.def_ 15 (d := d_Parser_take_plan) rfl
    F_Parser_take_robot := c.def_ 16 (d := d_Parser_take_robot) rfl
    F_Parser_take_step := c.def_ 17 (d := d_Parser_take_step) rfl
    F_parse_plan := c.def_ 18 (d := d_parse_plan) rfl
    F_Plan_init := c.def_ 19 (d := d_Plan_init) rfl
    F_read_plan := c.def_ 20 (d := d_read_plan) rfl
    F_linked_plan := c.def_ 21 (d := d_linked_plan) rfl
    F_linked_steps := c.def_ 22 (d := d_linked_steps) rfl
    F_first_labels := c.def_ 23 (d := d_first_labels) rfl
    F_check_plan := c.def_ 24 (d := d_check_plan) rfl
    F_fault_at := c.def_ 25 (d := d_fault_at) rfl
    F_shelf_faults := c.def_ 26 (d := d_shelf_faults) rfl
    F_start_faults := c.def_ 27 (d := d_start_faults) rfl
    F_step_faults := c.def_ 28 (d := d_step_faults) rfl
    F_format_plan := c.def_ 29 (d := d_format_plan) rfl
    F_count_steps := c.def_ 30 (d := d_count_steps) rfl
    F_plan_text := c.def_ 31 (d := d_plan_text) rfl
    F_step_lines := c.def_ 32 (d := d_step_lines) rfl
    F_label_of := c.def_ 33 (d := d_label_of) rfl
    F__law_random := c.def_ 34 (d := d__law_random) rfl
    F__law_below := c.def_ 35 (d := d__law_below) rfl
    F__law_steps := c.def_ 36 (d := d__law_steps) rfl
    F__law_plan := c.def_ 37 (d := d__law_plan) rfl
    F__law_text := c.def_ 38 (d := d__law_text) rfl
    F__law_shuffled := c.def_ 39 (d := d__law_shuffled) rfl
    F__law_equal := c.def_ 40 (d := d__law_equal) rfl
    F_law := c.def_ 41 (d := d_law) rfl
    bm_Parser_take := ⟨He.meth_ok (c.fact 47 rfl), He.eqO_ok (He.ba e5).1, of_decide_eq_true (He.ba (He.ba e5).2).1, by decide +kernel, (He.ba (He.ba e5).2).2⟩
    x_SyntaxFault := oexB_ok e6
    i_SyntaxFault := He.eqO_ok e7
    ti_SyntaxFault := of_decide_eq_true e8
    na_SyntaxFault_column := He.eqO_ok e9
    na_SyntaxFault_line := He.eqO_ok e10
    rd_BotError := binitB_ok e11
    x_CheckFault := oexB_ok e12
    i_CheckFault := He.eqO_ok e13
    ti_CheckFault := of_decide_eq_true e14
    na_CheckFault_column := He.eqO_ok e15
    na_CheckFault_line := He.eqO_ok e16
    na_CheckFault_reason := He.eqO_ok e
  }
end SB

set_option maxHeartbeats 4000000
namespace SB
open PySem PySem.Spec PyProof.Rows L2
open TL (tl)
/-! ### how data stand in the heap -/
/-- an __init__ that stores its arguments -/
def spInit (C : Addr) (g : List V → Option (List (Str × V))) : Sp := fun vs H Q _ => ∃ p dx us fs, vs = .ref p :: us ∧ g us = some fs ∧ H p = some (.ins C dx []) ∧
  ∀ H' : Hp, H' p = some (.ins C dx fs) → (∀ b o, H b = some o → b ≠ p → H' b = some o) → Q .non H'
theorem init_made {C : Addr} {g : List V → Option (List (Str × V))} {us : List V} {fs : List (Str × V)} {H1 : Hp} {Q : VK} {E : XK} (h : g us = some fs)
    (k : ∀ (x dx : Addr) (H2 : Hp), H1 x = none → Same H1 H2 → H2 x = some (.ins C dx fs) → Q (.ref x) H2) :
    ∀ x dx, H1 x = Option.none → H1 dx = Option.none → dx ≠ x → spInit C g (V.ref x :: us) (upd (upd H1 dx (.own x)) x (.ins C dx [])) (fun v H2 => v = .non ∧ Q (.ref x) H2) E := fun x dx nx ndx ne =>
  ⟨x, dx, us, fs, rfl, h, upd_same, fun H' e kp => ⟨rfl, k x dx H' nx (fun b o q => kp b o (by rw [upd_ne (ne_of_none q nx), upd_ne (ne_of_none q ndx)]; exact q) (ne_of_none q nx)) e⟩⟩
def big : Nat := 1000000
theorem big_line {n : Nat} (h : n ≤ big) : n ≤ sizeLine := Nat.le_trans h (by decide)
theorem big_lt {n : Nat} (h : n ≤ big) : n < sizeLine := Nat.lt_of_le_of_lt h (by decide)
def tkF (t : Tk) : List (Str × V) := [("kind", .str t.kind), ("text", .str t.text), ("line", .int t.line), ("column", .int t.col)]
def TokAt (K : PySem.W.Frag) (H : Hp) (v : V) (t : Tk) : Prop := ∃ a dx, v = .ref a ∧ H a = some (.ins (He.ga K "Token") dx (tkF t))
theorem TokAt.mono {K : PySem.W.Frag} {H H' : Hp} {v : V} {t : Tk} (e : Same H H') (h : TokAt K H v t) : TokAt K H' v t := by
  obtain ⟨a, dx, e1, e2⟩ := h
  exact ⟨a, dx, e1, e _ _ e2⟩
theorem TokAt.put {K : PySem.W.Frag} {H : Hp} {v : V} {t : Tk} {p : Addr} {xs ys : List V} (hp : H p = some (.lst xs)) (h : TokAt K H v t) : TokAt K (upd H p (.lst ys)) v t := by
  obtain ⟨a, dx, e1, e2⟩ := h
  refine ⟨a, dx, e1, ?_⟩
  rw [upd_ne (ne_of e2 hp (by intro z; cases z))]
  exact e2
/-- a list of things, each told by R -/
def All {α : Type} (R : V → α → Prop) : List V → List α → Prop := Paired R
theorem All.imp {α : Type} {R S : V → α → Prop} {vs : List V} {xs : List α} (h : All R vs xs) (i : ∀ v x, R v x → S v x) : All S vs xs := Paired.mapP h i
theorem All.app {α : Type} {R : V → α → Prop} : ∀ {vs ws : List V} {xs ys : List α}, All R vs xs → All R ws ys → All R (vs ++ ws) (xs ++ ys)
  | _, _, _, _, .nil, s => s
  | _, _, _, _, .cons r t, s => .cons r (All.app t s)
theorem All.len {α : Type} {R : V → α → Prop} {vs : List V} {xs : List α} (h : All R vs xs) : vs.length = xs.length := Paired.length h
theorem All.get {α : Type} {R : V → α → Prop} : ∀ {vs : List V} {xs : List α} {i : Nat} {x : α}, All R vs xs → xs[i]? = some x → ∃ v, vs[i]? = some v ∧ R v x
  | _, _, _, _, .nil, e => by simp at e
  | _, _, 0, _, .cons r _, e => by simp at e; subst e; exact ⟨_, rfl, r⟩
  | _, _, i + 1, x, .cons _ t, e => by
    obtain ⟨u, h1, h2⟩ := All.get (i := i) (x := x) t (by simpa using e)
    exact ⟨u, by simpa using h1, h2⟩
theorem All.getV {α : Type} {R : V → α → Prop} : ∀ {vs : List V} {xs : List α} {i : Nat} {v : V}, All R vs xs → vs[i]? = some v → ∃ x, xs[i]? = some x ∧ R v x
  | _, _, _, _, .nil, e => by simp at e
  | _, _, 0, _, .cons r _, e => by simp at e; subst e; exact ⟨_, rfl, r⟩
  | _, _, i + 1, x, .cons _ t, e => by
    obtain ⟨u, h1, h2⟩ := All.getV (i := i) (v := x) t (by simpa using e)
    exact ⟨u, by simpa using h1, h2⟩
/-- a list at v that stands by itself (it may be extended), of things told by R -/
def LAt {α : Type} (H : Hp) (R : V → α → Prop) (v : V) (xs : List α) : Prop := ∃ a vs, v = .ref a ∧ H a = some (.lst vs) ∧ All R vs xs
end SB

set_option maxHeartbeats 4000000
namespace SB
open PySem PySem.Spec PyProof.Rows L2
open TL (tl)
variable {P : Program} {w : World} {K : PySem.W.Frag} {mg : Str → Option Value} {base : Heap}

def g_Token : List V → Option (List (Str × V)) := fun us => match us with
  | [x0, x1, x2, x3] => some [("kind", x0), ("text", x1), ("line", x2), ("column", x3)]
  | _ => none
theorem ok_Token_init (T : Txt K mg) : FnR P w K mg base (L2.CX P w) 1 (He.ma K (He.ga K "Token") "__init__") (spInit (He.ga K "Token") g_Token) := by
  obtain ⟨fd, F⟩ := T.F_Token_init
  have B : Binds K fd P_Token_init [] := F.bindsN fun _ _ _ _ _ _ us hl => match us, hl with | [_, _, _, _, _], _ => rfl
  refine fnR_of F B (F.ok sc_Token_init (fun vs H Q E h => ?_) (fun cdv A outer s H vs Q E hr h => ?_))
  · obtain ⟨p, dx, us, fs, rfl, hg, hp, k⟩ := h
    match us, hg with
    | [x0, x1, x2, x3], _ => rfl
  · have hu := hu_of hr
    obtain ⟨p, dx, us, fs, rfl, hg, hp, k⟩ := h
    obtain ⟨x0, x1, x2, x3, rfl⟩ : ∃ x0 x1 x2 x3, us = [x0, x1, x2, x3] := by
      match us, hg with
      | [x0, x1, x2, x3], _ => exact ⟨x0, x1, x2, x3, rfl⟩
    obtain rfl := Option.some.inj (show some _ = some fs from hg)
    refine ⟨_, (pss_cons (ps_fld (pv 0) (pv 1) rfl)
        (pss_cons (ps_fld (pv 0) (pv 2) rfl)
        (pss_cons (ps_fld (pv 0) (pv 3) rfl)
        (pss_one (ps_fld (pv 0) (pv 4) rfl))))), ?_⟩
    refine ⟨_, rfl, _, rfl, p, _, dx, _, rfl, hp, T.c_Token, T.n_Token_kind, (by show 0 < 1000; decide),
      _, rfl, _, rfl, p, _, dx, _, rfl, upd_same, T.c_Token, T.n_Token_text, (by show 1 < 1000; decide),
      _, rfl, _, rfl, p, _, dx, _, rfl, upd_same, T.c_Token, T.n_Token_line, (by show 2 < 1000; decide),
      _, rfl, _, rfl, p, _, dx, _, rfl, upd_same, T.c_Token, T.n_Token_column, (by show 3 < 1000; decide), ?_⟩
    refine k _ upd_same fun b o e hb => ?_
    rw [upd_ne hb, upd_ne hb, upd_ne hb, upd_ne hb]
    exact e

def g_PlanTokens : List V → Option (List (Str × V)) := fun us => match us with
  | [x0, x1, x2] => some [("keyword", x0), ("numbers", x1), ("robots", x2)]
  | _ => none
theorem ok_PlanTokens_init (T : Txt K mg) : FnR P w K mg base (L2.CX P w) 1 (He.ma K (He.ga K "PlanTokens") "__init__") (spInit (He.ga K "PlanTokens") g_PlanTokens) := by
  obtain ⟨fd, F⟩ := T.F_PlanTokens_init
  have B : Binds K fd P_PlanTokens_init [] := F.bindsN fun _ _ _ _ _ _ us hl => match us, hl with | [_, _, _, _], _ => rfl
  refine fnR_of F B (F.ok sc_PlanTokens_init (fun vs H Q E h => ?_) (fun cdv A outer s H vs Q E hr h => ?_))
  · obtain ⟨p, dx, us, fs, rfl, hg, hp, k⟩ := h
    match us, hg with
    | [x0, x1, x2], _ => rfl
  · have hu := hu_of hr
    obtain ⟨p, dx, us, fs, rfl, hg, hp, k⟩ := h
    obtain ⟨x0, x1, x2, rfl⟩ : ∃ x0 x1 x2, us = [x0, x1, x2] := by
      match us, hg with
      | [x0, x1, x2], _ => exact ⟨x0, x1, x2, rfl⟩
    obtain rfl := Option.some.inj (show some _ = some fs from hg)
    refine ⟨_, (pss_cons (ps_fld (pv 0) (pv 1) rfl)
        (pss_cons (ps_fld (pv 0) (pv 2) rfl)
        (pss_one (ps_fld (pv 0) (pv 3) rfl)))), ?_⟩
    refine ⟨_, rfl, _, rfl, p, _, dx, _, rfl, hp, T.c_PlanTokens, T.n_PlanTokens_keyword, (by show 0 < 1000; decide),
      _, rfl, _, rfl, p, _, dx, _, rfl, upd_same, T.c_PlanTokens, T.n_PlanTokens_numbers, (by show 1 < 1000; decide),
      _, rfl, _, rfl, p, _, dx, _, rfl, upd_same, T.c_PlanTokens, T.n_PlanTokens_robots, (by show 2 < 1000; decide), ?_⟩
    refine k _ upd_same fun b o e hb => ?_
    rw [upd_ne hb, upd_ne hb, upd_ne hb]
    exact e

def g_RobotTokens : List V → Option (List (Str × V)) := fun us => match us with
  | [x0, x1] => some [("start", x0), ("steps", x1)]
  | _ => none
theorem ok_RobotTokens_init (T : Txt K mg) : FnR P w K mg base (L2.CX P w) 1 (He.ma K (He.ga K "RobotTokens") "__init__") (spInit (He.ga K "RobotTokens") g_RobotTokens) := by
  obtain ⟨fd, F⟩ := T.F_RobotTokens_init
  have B : Binds K fd P_RobotTokens_init [] := F.bindsN fun _ _ _ _ _ _ us hl => match us, hl with | [_, _, _], _ => rfl
  refine fnR_of F B (F.ok sc_RobotTokens_init (fun vs H Q E h => ?_) (fun cdv A outer s H vs Q E hr h => ?_))
  · obtain ⟨p, dx, us, fs, rfl, hg, hp, k⟩ := h
    match us, hg with
    | [x0, x1], _ => rfl
  · have hu := hu_of hr
    obtain ⟨p, dx, us, fs, rfl, hg, hp, k⟩ := h
    obtain ⟨x0, x1, rfl⟩ : ∃ x0 x1, us = [x0, x1] := by
      match us, hg with
      | [x0, x1], _ => exact ⟨x0, x1, rfl⟩
    obtain rfl := Option.some.inj (show some _ = some fs from hg)
    refine ⟨_, (pss_cons (ps_fld (pv 0) (pv 1) rfl)
        (pss_one (ps_fld (pv 0) (pv 2) rfl))), ?_⟩
    refine ⟨_, rfl, _, rfl, p, _, dx, _, rfl, hp, T.c_RobotTokens, T.n_RobotTokens_start, (by show 0 < 1000; decide),
      _, rfl, _, rfl, p, _, dx, _, rfl, upd_same, T.c_RobotTokens, T.n_RobotTokens_steps, (by show 1 < 1000; decide), ?_⟩
    refine k _ upd_same fun b o e hb => ?_
    rw [upd_ne hb, upd_ne hb]
    exact e

def g_StepTokens : List V → Option (List (Str × V)) := fun us => match us with
  | [x0, x1, x2] => some [("label", x0), ("command", x1), ("target", x2)]
  | _ => none
theorem ok_StepTokens_init (T : Txt K mg) : FnR P w K mg base (L2.CX P w) 1 (He.ma K (He.ga K "StepTokens") "__init__") (spInit (He.ga K "StepTokens") g_StepTokens) := by
  obtain ⟨fd, F⟩ := T.F_StepTokens_init
  have B : Binds K fd P_StepTokens_init [] := F.bindsN fun _ _ _ _ _ _ us hl => match us, hl with | [_, _, _, _], _ => rfl
  refine fnR_of F B (F.ok sc_StepTokens_init (fun vs H Q E h => ?_) (fun cdv A outer s H vs Q E hr h => ?_))
  · obtain ⟨p, dx, us, fs, rfl, hg, hp, k⟩ := h
    match us, hg with
    | [x0, x1, x2], _ => rfl
  · have hu := hu_of hr
    obtain ⟨p, dx, us, fs, rfl, hg, hp, k⟩ := h
    obtain ⟨x0, x1, x2, rfl⟩ : ∃ x0 x1 x2, us = [x0, x1, x2] := by
      match us, hg with
      | [x0, x1, x2], _ => exact ⟨x0, x1, x2, rfl⟩
    obtain rfl := Option.some.inj (show some _ = some fs from hg)
    refine ⟨_, (pss_cons (ps_fld (pv 0) (pv 1) rfl)
        (pss_cons (ps_fld (pv 0) (pv 2) rfl)
        (pss_one (ps_fld (pv 0) (pv 3) rfl)))), ?_⟩
    refine ⟨_, rfl, _, rfl, p, _, dx, _, rfl, hp, T.c_StepTokens, T.n_StepTokens_label, (by show 0 < 1000; decide),
      _, rfl, _, rfl, p, _, dx, _, rfl, upd_same, T.c_StepTokens, T.n_StepTokens_command, (by show 1 < 1000; decide),
      _, rfl, _, rfl, p, _, dx, _, rfl, upd_same, T.c_StepTokens, T.n_StepTokens_target, (by show 2 < 1000; decide), ?_⟩
    refine k _ upd_same fun b o e hb => ?_
    rw [upd_ne hb, upd_ne hb, upd_ne hb]
    exact e

def g_Parser : List V → Option (List (Str × V)) := fun us => match us with
  | [x0] => some [("tokens", x0), ("at", V.int 0)]
  | _ => none
theorem ok_Parser_init (T : Txt K mg) : FnR P w K mg base (L2.CX P w) 1 (He.ma K (He.ga K "Parser") "__init__") (spInit (He.ga K "Parser") g_Parser) := by
  obtain ⟨fd, F⟩ := T.F_Parser_init
  have B : Binds K fd P_Parser_init [] := F.bindsN fun _ _ _ _ _ _ us hl => match us, hl with | [_, _], _ => rfl
  refine fnR_of F B (F.ok sc_Parser_init (fun vs H Q E h => ?_) (fun cdv A outer s H vs Q E hr h => ?_))
  · obtain ⟨p, dx, us, fs, rfl, hg, hp, k⟩ := h
    match us, hg with
    | [x0], _ => rfl
  · have hu := hu_of hr
    obtain ⟨p, dx, us, fs, rfl, hg, hp, k⟩ := h
    obtain ⟨x0, rfl⟩ : ∃ x0, us = [x0] := by
      match us, hg with
      | [x0], _ => exact ⟨x0, rfl⟩
    obtain rfl := Option.some.inj (show some _ = some fs from hg)
    refine ⟨_, (pss_cons (ps_fld (pv 0) (pv 1) rfl)
        (pss_one (ps_fld (pv 0) pe_int rfl))), ?_⟩
    refine ⟨_, rfl, _, rfl, p, _, dx, _, rfl, hp, T.c_Parser, T.n_Parser_tokens, (by show 0 < 1000; decide),
      _, rfl, p, _, dx, _, rfl, upd_same, T.c_Parser, T.n_Parser_at, (by show 1 < 1000; decide), ?_⟩
    refine k _ upd_same fun b o e hb => ?_
    rw [upd_ne hb, upd_ne hb]
    exact e

def g_Plan : List V → Option (List (Str × V)) := fun us => match us with
  | [x0, x1, x2] => some [("boxes", x0), ("first_cells", x1), ("steps", x2)]
  | _ => none
theorem ok_Plan_init (T : Txt K mg) : FnR P w K mg base (L2.CX P w) 1 (He.ma K (He.ga K "Plan") "__init__") (spInit (He.ga K "Plan") g_Plan) := by
  obtain ⟨fd, F⟩ := T.F_Plan_init
  have B : Binds K fd P_Plan_init [] := F.bindsN fun _ _ _ _ _ _ us hl => match us, hl with | [_, _, _, _], _ => rfl
  refine fnR_of F B (F.ok sc_Plan_init (fun vs H Q E h => ?_) (fun cdv A outer s H vs Q E hr h => ?_))
  · obtain ⟨p, dx, us, fs, rfl, hg, hp, k⟩ := h
    match us, hg with
    | [x0, x1, x2], _ => rfl
  · have hu := hu_of hr
    obtain ⟨p, dx, us, fs, rfl, hg, hp, k⟩ := h
    obtain ⟨x0, x1, x2, rfl⟩ : ∃ x0 x1 x2, us = [x0, x1, x2] := by
      match us, hg with
      | [x0, x1, x2], _ => exact ⟨x0, x1, x2, rfl⟩
    obtain rfl := Option.some.inj (show some _ = some fs from hg)
    refine ⟨_, (pss_cons (ps_fld (pv 0) (pv 1) rfl)
        (pss_cons (ps_fld (pv 0) (pv 2) rfl)
        (pss_one (ps_fld (pv 0) (pv 3) rfl)))), ?_⟩
    refine ⟨_, rfl, _, rfl, p, _, dx, _, rfl, hp, T.c_Plan, T.n_Plan_boxes, (by show 0 < 1000; decide),
      _, rfl, _, rfl, p, _, dx, _, rfl, upd_same, T.c_Plan, T.n_Plan_first_cells, (by show 1 < 1000; decide),
      _, rfl, _, rfl, p, _, dx, _, rfl, upd_same, T.c_Plan, T.n_Plan_steps, (by show 2 < 1000; decide), ?_⟩
    refine k _ upd_same fun b o e hb => ?_
    rw [upd_ne hb, upd_ne hb, upd_ne hb]
    exact e

end SB

set_option maxHeartbeats 4000000
namespace SB
open PySem PySem.Spec PyProof.Rows L2
open TL (tl)
variable {P : Program} {w : World} {K : PySem.W.Frag} {mg : Str → Option Value} {base : Heap}

theorem ok_SyntaxFault_init (T : Txt K mg) : ∃ fd, FnOk P w K mg base (L2.CX P w) 1 (He.ma K (He.ga K "SyntaxFault") "__init__") fd P_SyntaxFault_init (spOInit (He.ga K "SyntaxFault") gSF) ∧ Binds K fd P_SyntaxFault_init [] := by
  obtain ⟨fd, F⟩ := T.F_SyntaxFault_init
  have B : Binds K fd P_SyntaxFault_init [] := F.bindsN fun _ _ _ _ _ _ us hl => match us, hl with | [_, _, _], _ => rfl
  refine ⟨fd, F.ok sc_SyntaxFault_init (fun vs H Q E h => ?_) (fun cdv A outer s H vs Q E hr h => ?_), B⟩
  · obtain ⟨a, us, fs, rfl, ⟨l, c, rfl, rfl, hl, hc⟩, ha, k⟩ := h
    rfl
  · obtain ⟨a, us, fs, rfl, ⟨l, c, rfl, rfl, hl, hc⟩, ha, k⟩ := h
    refine ⟨_, (pss_cons (ps_expr (pe_binit T.g_BotError T.rd_BotError.1 T.rd_BotError.2 (pa_cons (pv 0) (pa_cons (pe_joined (.cons pe_str (.cons (pe_fmt (pv 1)) (.cons pe_str (.cons (pe_fmt (pv 2)) .nil))))) pa_nil))))
    (pss_cons (ps_ost (pv 0) (pv 1)) (pss_one (ps_ost (pv 0) (pv 2))))), ?_⟩
    have ls : sizeLine = 16777216 := sizeLine_eq
    have e1 := txt_ok hl
    have e2 := txt_ok hc
    have k0 : Str.empty.length = 0 := rfl
    have k1 : (("no plan fits at line " : Str)).length ≤ 40 := by decide +kernel
    have k2 : ((", column " : Str)).length ≤ 40 := by decide +kernel
    refine ⟨_, rfl, _, rfl, (by simp only [app_len]; omega), _, rfl, Or.inr ⟨_, rfl, log_ok hl, _, rfl, (by simp only [app_len]; omega), _, rfl, (by simp only [app_len]; omega), _, rfl, Or.inr ⟨_, rfl, log_ok hc, _, rfl, (by simp only [app_len]; omega), a, _, _, rfl, (by show 1 ≤ 1000; decide), T.x_SyntaxFault, ha, ?_⟩⟩⟩
    refine ⟨_, rfl, _, rfl, a, _, rfl, T.x_SyntaxFault, T.na_SyntaxFault_line, Or.inl ⟨ha, fun d nd ne => ?_⟩⟩
    refine ⟨_, rfl, _, rfl, a, _, rfl, T.x_SyntaxFault, T.na_SyntaxFault_column, Or.inr ⟨d, _, upd_same, (by rw [upd_ne ne]; exact upd_same), (by show 1 ≤ 900; decide), ?_⟩⟩
    refine k d _ nd ne (by rw [upd_ne (Ne.symm ne), upd_same]) upd_same fun b o e hb => ?_
    have hd : b ≠ d := ne_of_none e nd
    rw [upd_ne hd, upd_ne hb, upd_ne hd]
    exact e
theorem ok_CheckFault_init (T : Txt K mg) : ∃ fd, FnOk P w K mg base (L2.CX P w) 1 (He.ma K (He.ga K "CheckFault") "__init__") fd P_CheckFault_init (spOInit (He.ga K "CheckFault") gCF) ∧ Binds K fd P_CheckFault_init [] := by
  obtain ⟨fd, F⟩ := T.F_CheckFault_init
  have B : Binds K fd P_CheckFault_init [] := F.bindsN fun _ _ _ _ _ _ us hl => match us, hl with | [_, _, _, _], _ => rfl
  refine ⟨fd, F.ok sc_CheckFault_init (fun vs H Q E h => ?_) (fun cdv A outer s H vs Q E hr h => ?_), B⟩
  · obtain ⟨a, us, fs, rfl, ⟨z, l, c, rfl, rfl, hz, hl, hc⟩, ha, k⟩ := h
    rfl
  · obtain ⟨a, us, fs, rfl, ⟨z, l, c, rfl, rfl, hz, hl, hc⟩, ha, k⟩ := h
    refine ⟨_, (pss_cons (ps_expr (pe_binit T.g_BotError T.rd_BotError.1 T.rd_BotError.2 (pa_cons (pv 0) (pa_cons (pe_joined (.cons (pe_fmt (pv 1)) (.cons pe_str (.cons (pe_fmt (pv 2)) (.cons pe_str (.cons (pe_fmt (pv 3)) .nil)))))) pa_nil))))
    (pss_cons (ps_ost (pv 0) (pv 1)) (pss_cons (ps_ost (pv 0) (pv 2)) (pss_one (ps_ost (pv 0) (pv 3)))))), ?_⟩
    have ls : sizeLine = 16777216 := sizeLine_eq
    have e1 := txt_ok hl
    have e2 := txt_ok hc
    have k0 : Str.empty.length = 0 := rfl
    have k1 : ((" at line " : Str)).length ≤ 40 := by decide +kernel
    have k2 : ((", column " : Str)).length ≤ 40 := by decide +kernel
    refine ⟨_, rfl, _, rfl, Or.inl ⟨_, rfl, (by omega), _, rfl, (by simp only [app_len]; omega), _, rfl, (by simp only [app_len]; omega), _, rfl, Or.inr ⟨_, rfl, log_ok hl, _, rfl, (by simp only [app_len]; omega), _, rfl, (by simp only [app_len]; omega), _, rfl, Or.inr ⟨_, rfl, log_ok hc, _, rfl, (by simp only [app_len]; omega), a, _, _, rfl, (by show 1 ≤ 1000; decide), T.x_CheckFault, ha, ?_⟩⟩⟩⟩
    refine ⟨_, rfl, _, rfl, a, _, rfl, T.x_CheckFault, T.na_CheckFault_reason, Or.inl ⟨ha, fun d nd ne => ?_⟩⟩
    refine ⟨_, rfl, _, rfl, a, _, rfl, T.x_CheckFault, T.na_CheckFault_line, Or.inr ⟨d, _, upd_same, (by rw [upd_ne ne]; exact upd_same), (by show 1 ≤ 900; decide), ?_⟩⟩
    refine ⟨_, rfl, _, rfl, a, _, rfl, T.x_CheckFault, T.na_CheckFault_column, Or.inr ⟨d, _, (by rw [upd_ne (Ne.symm ne), upd_same]), upd_same, (by show 2 ≤ 900; decide), ?_⟩⟩
    refine k d _ nd ne (by rw [upd_ne (Ne.symm ne), upd_ne (Ne.symm ne), upd_same]) upd_same fun b o e hb => ?_
    have hd : b ≠ d := ne_of_none e nd
    rw [upd_ne hd, upd_ne hd, upd_ne hb, upd_ne hd]
    exact e
end SB

set_option maxHeartbeats 4000000
namespace SB
open PySem PySem.Spec PyProof.Rows L2 Evl
open TL (tl)
theorem ex_same {H H' : Hp} (e : Ex H H') : Same H H' := e
section
variable {K : PySem.W.Frag} {σ : L2.St} {H H' : Hp} {ta tb te tx : TE} {t u : TT} {x y z v : V} {r : R2} {E : XK}
/-- one sign in a text -/
theorem rv_inS {c : Nat} {w : Str} : RV (fun x y H Q => ∃ (c : Nat) (z : Str), x = V.str ⟨#[c]⟩ ∧ y = V.str z ∧ Q (.bl (decide (c ∈ z.cps.toList))) H) (.str ⟨#[c]⟩) (.str w) H (.bl (decide (c ∈ w.cps.toList))) :=
  fun H1 _ _ q => ⟨c, w, rfl, rfl, q H1 (Ex.refl H1)⟩
theorem ev_lenS {w : Str} (ha : Ev ta σ H (.str w)) (hl : w.length ≤ sizeLine) : Ev (tCB (fun xs H Q => ∃ z, xs = [V.str z] ∧ z.length ≤ sizeLine ∧ Q (V.int z.length) H) (tCons ta tNil)) σ H (.int w.length) :=
  fun H1 e Q q => ha H1 e _ fun H2 e2 => ⟨w, rfl, hl, q H2 e2⟩
theorem rv_ixS' {w : Str} {i : Nat} {c : Nat} (h : w.length ≤ sizeLine) (ha : (tl w)[i]? = some c) : RV rIxS (.str w) (.int i) H (.str ⟨#[c]⟩) := fun H1 _ _ q => by
  refine ⟨w, i, c, rfl, rfl, h, ?_, q H1 (Ex.refl H1)⟩
  unfold atI
  have hi : i < w.cps.toList.length := (List.getElem?_eq_some_iff.mp ha).1
  rw [ixN_nat hi]
  exact ha
/-- a call by its positional promise -/
theorem ev_callR {sp : Sp} {vs : List V} {t : TA} (h : EvA t σ H vs) (hs : ∀ H1, Ex H H1 → ∀ Q : VK, (∀ H2, Ex H1 H2 → Q z H2) → sp vs H1 Q E) : Ev (tCallR sp E t) σ H z := fun H1 e Q q =>
  h H1 e _ fun H2 e2 => hs H2 (e.trans e2) Q fun H3 e3 => q H3 (e2.trans e3)
theorem ev_fld {a C dx : Addr} {fs : List (Str × V)} {f : Str} (ha : Ev ta σ H (.ref a)) (ho : H a = some (.ins C dx fs)) (hc : Cls K C) (hn : NoAttr K C f) (hl : fs.lookup f = some v) : Ev (tFld K ta f) σ H v := fun H1 e Q q =>
  ha H1 e _ fun H2 e2 => ⟨a, C, dx, fs, v, rfl, e2 _ _ (e _ _ ho), hc, hn, hl, q H2 e2⟩
/-- what an expression gives, told by P -/
def EvP (te : TE) (σ : L2.St) (H : Hp) (P : V → Hp → Prop) : Prop := ∀ H1, Ex H H1 → ∀ Q : VK, (∀ v H2, Ex H1 H2 → P v H2 → Q v H2) → te σ H1 Q
theorem Ev.p {P : V → Hp → Prop} (h : Ev te σ H v) (hp : ∀ H1, Ex H H1 → P v H1) : EvP te σ H P := fun H1 e Q q => h H1 e Q fun H2 e2 => q v H2 e2 (hp H2 (e.trans e2))
theorem EvP.mono {P : V → Hp → Prop} (e : Ex H H') (h : EvP te σ H P) : EvP te σ H' P := fun H1 a Q q => h H1 (e.trans a) Q q
theorem ep_callR {sp : Sp} {vs : List V} {t : TA} {P : V → Hp → Prop} (h : EvA t σ H vs) (hs : ∀ H1, Ex H H1 → ∀ Q : VK, (∀ v H2, Ex H1 H2 → P v H2 → Q v H2) → sp vs H1 Q E) : EvP (tCallR sp E t) σ H P := fun H1 e Q q =>
  h H1 e _ fun H2 e2 => hs H2 (e.trans e2) Q fun v H3 e3 hp => q v H3 (e2.trans e3) hp
/-- a new instance by an __init__ that stores its arguments -/
theorem ep_make {C : Addr} {g : List V → Option (List (Str × V))} {us : List V} {fs : List (Str × V)} {t : TA} {P : V → Hp → Prop} (h : EvA t σ H us) (hg : g us = some fs)
    (hp : ∀ (x dx : Addr) (H2 : Hp), Ex H H2 → H2 x = some (.ins C dx fs) → P (.ref x) H2) : EvP (StX.tMakeR C (spInit C g) E t) σ H P := fun H1 e Q q =>
  h H1 e _ fun H2 e2 => init_made hg fun x dx H3 nx s3 ho => q _ H3 (e2.trans s3) (hp x dx H3 ((e.trans e2).trans s3) ho)
variable {D : Ends} {tu tw tz : TS} {P : V → Hp → Prop}
theorem s_asgP {i : Nat} (h : EvP te σ H P) (k : ∀ v H1, Ex H H1 → P v H1 → D.nx (σ.set i (some v)) H1) : tAsg te (gName i) D σ H := h H (Ex.refl H) _ fun v H1 e p => k v H1 e p
theorem q_asgP {i : Nat} (h : EvP te σ H P) (k : ∀ v H1, Ex H H1 → P v H1 → tz D (σ.set i (some v)) H1) : tSeq (tAsg te (gName i)) tz D σ H := s_asgP (D := { D with nx := tz D }) h k
theorem s_retP (h : EvP te σ H P) (k : ∀ v H1, Ex H H1 → P v H1 → D.rt v H1) : tRet te D σ H := h H (Ex.refl H) _ k
theorem s_dropP (h : EvP te σ H P) (k : ∀ v H1, Ex H H1 → P v H1 → D.nx σ H1) : tDrop te D σ H := h H (Ex.refl H) _ k
theorem q_dropP (h : EvP te σ H P) (k : ∀ v H1, Ex H H1 → P v H1 → tz D σ H1) : tSeq (tDrop te) tz D σ H := s_dropP (D := { D with nx := tz D }) h k
/-- xs.append(e), e told by P -/
theorem s_appP {l : Addr} {xs : List V} (hl : H l = some (.lst xs)) (ha : Ev ta σ H (.ref l)) (h : EvP te σ H P) (hz : xs.length < sizeLine) (k : ∀ v H1, Ex H H1 → P v H1 → D.nx σ (upd H1 l (.lst (xs ++ [v])))) :
    tDrop (tBM K "list" rAppend ta (tCons te tNil)) D σ H := ha H (Ex.refl H) _ fun H1 e1 =>
  ⟨Or.inl ⟨rfl, xs, sq_of (e1 l _ hl)⟩, h H1 e1 _ fun v H2 e2 p => ⟨l, xs, v, rfl, rfl, e2 l _ (e1 l _ hl), hz, k v H2 (e1.trans e2) p⟩⟩
theorem q_appP {l : Addr} {xs : List V} (hl : H l = some (.lst xs)) (ha : Ev ta σ H (.ref l)) (h : EvP te σ H P) (hz : xs.length < sizeLine) (k : ∀ v H1, Ex H H1 → P v H1 → tz D σ (upd H1 l (.lst (xs ++ [v])))) :
    tSeq (tDrop (tBM K "list" rAppend ta (tCons te tNil))) tz D σ H := s_appP (D := { D with nx := tz D }) hl ha h hz k
/-- arguments of which one is told by P -/
def EvAP (ta : TA) (σ : L2.St) (H : Hp) (P : List V → Hp → Prop) : Prop := ∀ H1, Ex H H1 → ∀ Q : List V → Hp → Prop, (∀ vs H2, Ex H1 H2 → P vs H2 → Q vs H2) → ta σ H1 Q
theorem ap_nil {P : List V → Hp → Prop} (hp : ∀ H1, Ex H H1 → P [] H1) : EvAP tNil σ H P := fun H1 e Q q => q [] H1 (Ex.refl H1) (hp H1 e)
theorem ap_cons {P : V → Hp → Prop} {R : List V → Hp → Prop} {tr : TA} (h : EvP te σ H P) (hr : ∀ v H1, Ex H H1 → P v H1 → EvAP tr σ H1 (fun vs H2 => R (v :: vs) H2)) : EvAP (tCons te tr) σ H R := fun H1 e Q q =>
  h H1 e _ fun v H2 e2 p => hr v H2 (e.trans e2) p H2 (Ex.refl H2) _ fun vs H3 e3 p3 => q (v :: vs) H3 (e2.trans e3) p3
theorem ap_of {vs : List V} {ta : TA} (h : EvA ta σ H vs) : EvAP ta σ H (fun ws _ => ws = vs) := fun H1 e Q q => h H1 e _ fun H2 e2 => q vs H2 e2 rfl
theorem ep_callRP {sp : Sp} {t : TA} {P : V → Hp → Prop} {R : List V → Hp → Prop} (h : EvAP t σ H R) (hs : ∀ vs H1, Ex H H1 → R vs H1 → ∀ Q : VK, (∀ v H2, Ex H1 H2 → P v H2 → Q v H2) → sp vs H1 Q E) : EvP (tCallR sp E t) σ H P := fun H1 e Q q =>
  h H1 e _ fun vs H2 e2 r => hs vs H2 (e.trans e2) r Q fun v H3 e3 hp => q v H3 (e2.trans e3) hp
theorem ep_makeP {C : Addr} {g : List V → Option (List (Str × V))} {R : List V → Hp → Prop} {t : TA} {P : V → Hp → Prop} (h : EvAP t σ H R)
    (hp : ∀ us H1, Ex H H1 → R us H1 → ∃ fs, g us = some fs ∧ ∀ (x dx : Addr) (H2 : Hp), Ex H1 H2 → H2 x = some (.ins C dx fs) → P (.ref x) H2) : EvP (StX.tMakeR C (spInit C g) E t) σ H P := fun H1 e Q q =>
  h H1 e _ fun us H2 e2 r => by
    obtain ⟨fs, hg, hp⟩ := hp us H2 (e.trans e2) r
    exact init_made hg fun x dx H3 nx s3 ho => q _ H3 (e2.trans s3) (hp x dx H3 s3 ho)
/-- a slice of a text -/
theorem ev_slS {tl_ th : TO} {w : Str} {lo hi : Option Int} (h : Ev te σ H (.str w)) (h1 : EvO tl_ σ H lo) (h2 : EvO th σ H hi) (hl : w.length ≤ sizeLine) : Ev (tSl rSlS te tl_ th) σ H (.str (cutS w lo hi)) := fun H1 e Q q =>
  h H1 e _ fun H2 e2 => h1 H2 (e.trans e2) _ fun H3 e3 => h2 H3 ((e.trans e2).trans e3) _ fun H4 e4 => ⟨w, rfl, hl, q H4 ((e2.trans e3).trans e4)⟩
theorem et_tru {b : Bool} (h : Ev te σ H v) (ht : ∀ H1, Ex H H1 → TruV K v H1 b) : EvT (fun σ H Q => te σ H fun x H' => ∃ k, TruV K x H' k ∧ Q k H') σ H b := fun H1 e Q q =>
  h H1 e _ fun H2 e2 => ⟨b, ht H2 (e.trans e2), q H2 e2⟩
/-- a for over a new tuple -/
theorem s_forNU {xs : List V} {tl_ : TE} {g : TG} (h : EvU tl_ σ H xs) (Pv : Addr → Nat → L2.St → Hp → Prop) (h0 : ∀ p H1, H p = none → Ex H H1 → H1 p = some (.tup xs) → Pv p 0 σ H1) (hl : ∀ p i σ' H', i ≤ xs.length → Pv p i σ' H' → SqT K H' p xs)
    (hs : ∀ p i x σ' H', xs[i]? = some x → Pv p i σ' H' → g x σ' H' fun σ2 H2 => tu { D with nx := Pv p (i + 1), ct := Pv p (i + 1), bk := D.nx } σ2 H2) (hd : ∀ p σ' H', Pv p xs.length σ' H' → D.nx σ' H') : tFor (iTup K tl_) g tu D σ H :=
  h H (Ex.refl H) _ fun p H1 hp e h1 => ⟨p, rfl, ⟨xs, st_of h1⟩, for_tup (Pv p) (h0 p H1 hp e h1) (hl p) (hs p) (hd p)⟩
theorem q_forNU {xs : List V} {tl_ : TE} {g : TG} (h : EvU tl_ σ H xs) (Pv : Addr → Nat → L2.St → Hp → Prop) (h0 : ∀ p H1, H p = none → Ex H H1 → H1 p = some (.tup xs) → Pv p 0 σ H1) (hl : ∀ p i σ' H', i ≤ xs.length → Pv p i σ' H' → SqT K H' p xs)
    (hs : ∀ p i x σ' H', xs[i]? = some x → Pv p i σ' H' → g x σ' H' fun σ2 H2 => tu { D with nx := Pv p (i + 1), ct := Pv p (i + 1), bk := tz D } σ2 H2) (hd : ∀ p σ' H', Pv p xs.length σ' H' → tz D σ' H') : tSeq (tFor (iTup K tl_) g tu) tz D σ H :=
  s_forNU (D := { D with nx := tz D }) h Pv h0 hl hs hd
/-- for i, x in enumerate(xs) -/
theorem s_forEnum {ta : TA} {a : Addr} {xs : List V} {j1 j2 n : Nat} (h : EvA ta σ H [.ref a]) (hx : SqL K H a xs) (hn : 2 = n) (Pv : Nat → L2.St → Hp → Prop) (h0 : ∀ H1, Ex H H1 → Pv 0 σ H1) (hl : ∀ i σ' H', i ≤ xs.length → Pv i σ' H' → SqL K H' a xs)
    (hs : ∀ (i : Nat) x σ' H' H2, xs[i]? = some x → Pv i σ' H' → Ex H' H2 → tu { D with nx := Pv (i + 1), ct := Pv (i + 1), bk := D.nx } ((σ'.set j1 (some (.int (i : Int)))).set j2 (some x)) H2) (hd : ∀ σ' H', Pv xs.length σ' H' → D.nx σ' H') :
    tFor (iEnum K ta) (gTup K n (gCons (gName j1) (gCons (gName j2) gNil))) tu D σ H :=
  h H (Ex.refl H) _ fun H1 e => ⟨a, xs, rfl, ex_l e hx, for_it walk_enum Pv (h0 H1 e) hl (fun i v σ' H' H2 hi p y => by
    obtain ⟨T, x, y, rfl, hT, rfl, ex, ey⟩ := y
    obtain rfl : V.int (i : Int) = x := Option.some.inj ex
    exact ⟨T, [.int (i : Int), y], rfl, st_of upd_same, hn, _, _, rfl, _, _, rfl, rfl, hs i y σ' H' _ ey p (Ex.new hT)⟩) hd⟩
theorem q_forEnum {ta : TA} {a : Addr} {xs : List V} {j1 j2 n : Nat} (h : EvA ta σ H [.ref a]) (hx : SqL K H a xs) (hn : 2 = n) (Pv : Nat → L2.St → Hp → Prop) (h0 : ∀ H1, Ex H H1 → Pv 0 σ H1) (hl : ∀ i σ' H', i ≤ xs.length → Pv i σ' H' → SqL K H' a xs)
    (hs : ∀ (i : Nat) x σ' H' H2, xs[i]? = some x → Pv i σ' H' → Ex H' H2 → tu { D with nx := Pv (i + 1), ct := Pv (i + 1), bk := tz D } ((σ'.set j1 (some (.int (i : Int)))).set j2 (some x)) H2) (hd : ∀ σ' H', Pv xs.length σ' H' → tz D σ' H') :
    tSeq (tFor (iEnum K ta) (gTup K n (gCons (gName j1) (gCons (gName j2) gNil))) tu) tz D σ H := s_forEnum (D := { D with nx := tz D }) h hx hn Pv h0 hl hs hd
/-- xs.extend(e), e a list of its own -/
theorem s_extP {l : Addr} {xs : List V} (hl : H l = some (.lst xs)) (ha : Ev ta σ H (.ref l)) (h : EvP te σ H P) (k : ∀ v H1, Ex H H1 → P v H1 → ∃ b ys, v = .ref b ∧ H1 b = some (.lst ys) ∧ xs.length + ys.length ≤ sizeLine ∧ D.nx σ (upd H1 l (.lst (xs ++ ys)))) :
    tDrop (tBM K "list" rExtend ta (tCons te tNil)) D σ H := ha H (Ex.refl H) _ fun H1 e1 =>
  ⟨Or.inl ⟨rfl, xs, sq_of (e1 l _ hl)⟩, h H1 e1 _ fun v H2 e2 p => by
    obtain ⟨b, ys, rfl, hb, hz, q⟩ := k v H2 (e1.trans e2) p
    exact ⟨l, b, xs, ys, rfl, rfl, e2 l _ (e1 l _ hl), hb, hz, q⟩⟩
theorem q_extP {l : Addr} {xs : List V} (hl : H l = some (.lst xs)) (ha : Ev ta σ H (.ref l)) (h : EvP te σ H P) (k : ∀ v H1, Ex H H1 → P v H1 → ∃ b ys, v = .ref b ∧ H1 b = some (.lst ys) ∧ xs.length + ys.length ≤ sizeLine ∧ tz D σ (upd H1 l (.lst (xs ++ ys)))) :
    tSeq (tDrop (tBM K "list" rExtend ta (tCons te tNil))) tz D σ H := s_extP (D := { D with nx := tz D }) hl ha h k
/-- s.split(sep) -/
theorem el_split {a b : Str} (h : Ev ta σ H (.str a)) (h2 : Ev tb σ H (.str b)) (hb : (b.length == 0) = false) (hz : a.length + 2 ≤ sizeLine) :
    EvL (tM1 (fun x xs H Q => ∃ a b, x = V.str a ∧ xs = [V.str b] ∧ (b.length == 0) = false ∧ a.length + 2 ≤ sizeLine ∧ rNewStrs (Txt.split a b) H Q) ta tb) σ H ((Txt.split a b).map V.str) := fun H1 e Q q =>
  h H1 e _ fun H2 e2 => ⟨⟨a, rfl⟩, h2 H2 (e.trans e2) _ fun H3 e3 => ⟨a, b, rfl, rfl, hb, hz, fun p hp => q p _ (fresh_back (e2.trans e3) hp) ((e2.trans e3).trans (Ex.new hp)) upd_same⟩⟩
theorem ev_isStr {a : Str} (h : Ev ta σ H (.str a)) : Ev (tCB (rIsi K) (tCons ta (tCons (tC (.ty "str")) tNil))) σ H (.bl true) := fun H1 e Q q =>
  h H1 e _ fun H2 e2 => ⟨.str a, .ty "str", .type "str", .type "str", true, rfl, .ty "str", .base (.str a), kit_ty (by decide +kernel), q H2 e2⟩
theorem q_setH {i : Nat} (h : te σ H fun v H1 => tz D (σ.set i (some v)) H1) : tSeq (tAsg te (gName i)) tz D σ H := h
theorem s_setH {i : Nat} (h : te σ H fun v H1 => D.nx (σ.set i (some v)) H1) : tAsg te (gName i) D σ H := h
theorem q_dropH (h : te σ H fun _ H1 => tz D σ H1) : tSeq (tDrop te) tz D σ H := h
theorem s_dropH (h : te σ H fun _ H1 => D.nx σ H1) : tDrop te D σ H := h
theorem s_retH (h : te σ H fun v H1 => D.rt v H1) : tRet te D σ H := h
theorem s_appH {l : Addr} {xs : List V} {i : Nat} (hv : σ[i]? = some (some (.ref l))) (hl : H l = some (.lst xs)) (h : te σ H fun v H2 => ∃ ys, H2 l = some (.lst ys) ∧ ys.length < sizeLine ∧ D.nx σ (upd H2 l (.lst (ys ++ [v])))) :
    tDrop (tBM K "list" rAppend (tVar i) (tCons te tNil)) D σ H := ⟨.ref l, hv, Or.inl ⟨rfl, xs, sq_of hl⟩, by
  have conv : ∀ v H2, (∃ ys, H2 l = some (.lst ys) ∧ ys.length < sizeLine ∧ D.nx σ (upd H2 l (.lst (ys ++ [v])))) → (tNil σ H2 fun vs H3 => rAppend (.ref l) (v :: vs) H3 fun _ H4 => D.nx σ H4) :=
    fun v H2 ⟨ys, h1, h2, h3⟩ => ⟨l, ys, v, rfl, rfl, h1, h2, h3⟩
  rw [show (fun v H2 => ∃ ys, H2 l = some (HO.lst ys) ∧ ys.length < sizeLine ∧ D.nx σ (upd H2 l (.lst (ys ++ [v])))) = (fun v H2 => tNil σ H2 fun vs H3 => rAppend (.ref l) (v :: vs) H3 fun _ H4 => D.nx σ H4) from by
    funext v H2
    apply propext
    refine ⟨conv v H2, fun ⟨l', ys, v', e1, e2, h1, h2, h3⟩ => ?_⟩
    cases e1
    cases e2
    exact ⟨ys, h1, h2, h3⟩] at h
  exact h⟩
theorem s_lst1H {i : Nat} (h : te σ H fun v H1 => ∀ p, H1 p = none → D.nx (σ.set i (some (.ref p))) (upd H1 p (.lst [v]))) : tAsg (tLst (tCons te tNil)) (gName i) D σ H := by
  rw [show (fun v H1 => ∀ p, H1 p = none → D.nx (σ.set i (some (.ref p))) (upd H1 p (.lst [v]))) = (fun v H1 => tNil σ H1 fun vs H2 => (v :: vs).length ≤ sizeLine ∧ ∀ p, H2 p = none → D.nx (σ.set i (some (.ref p))) (upd H2 p (.lst (v :: vs)))) from by
    funext v H1
    apply propext
    exact ⟨fun h => ⟨by show 1 ≤ sizeLine; decide, h⟩, fun h => h.2⟩] at h
  exact h
theorem q_lst1H {i : Nat} (h : te σ H fun v H1 => ∀ p, H1 p = none → tz D (σ.set i (some (.ref p))) (upd H1 p (.lst [v]))) : tSeq (tAsg (tLst (tCons te tNil)) (gName i)) tz D σ H := s_lst1H (D := { D with nx := tz D }) h
theorem ev_intS {a : Str} {n : Int} (h : Ev ta σ H (.str a)) (hn : PySem.intText? a = some n) (hl : a.length ≤ 640) : Ev (tCB (fun xs H Q => ∃ a n, xs = [V.str a] ∧ PySem.intText? a = some n ∧ a.length ≤ 640 ∧ Q (V.int n) H) (tCons ta tNil)) σ H (.int n) := fun H1 e Q q =>
  h H1 e _ fun H2 e2 => ⟨a, n, rfl, hn, hl, q H2 e2⟩
theorem rv_isN {x : V} : RV (fun x y H Q => y = V.non ∧ Q (.bl (decide (x = V.non))) H) x .non H (.bl (decide (x = V.non))) := fun H1 _ _ q => ⟨rfl, q H1 (Ex.refl H1)⟩
theorem rv_noN {x : V} : RV (fun x y H Q => y = V.non ∧ Q (.bl (!decide (x = V.non))) H) x .non H (.bl (!decide (x = V.non))) := fun H1 _ _ q => ⟨rfl, q H1 (Ex.refl H1)⟩
theorem ev_dget {d : Addr} {m : List (Key × V)} {z : Str} (ha : Ev ta σ H (.ref d)) (hb : Ev tb σ H (.str z)) (hd : H d = some (.dK m)) (hv : valV m (.inr z : Key) = some v) : Ev (tDGet ta tb) σ H v := fun H1 e Q q =>
  ha H1 e _ fun H2 e2 => hb H2 (e.trans e2) _ fun H3 e3 => ⟨d, v, rfl, .inl ⟨m, .inr z, .inl (((e.trans e2).trans e3) _ _ hd), rfl, hv.symm⟩, q H3 (e2.trans e3)⟩
theorem ev_dnin {d : Addr} {m : List (Key × V)} {z : Str} (ha : Ev ta σ H (.str z)) (hb : Ev tb σ H (.ref d)) (hd : H d = some (.dK m)) : Ev (tDNotIn ta tb) σ H (.bl (!(valV m (.inr z : Key)).isSome)) := fun H1 e Q q =>
  ha H1 e _ fun H2 e2 => hb H2 (e.trans e2) _ fun H3 e3 => ⟨d, _, rfl, .inl ⟨m, .inr z, .inl (((e.trans e2).trans e3) _ _ hd), rfl, rfl⟩, q H3 (e2.trans e3)⟩
theorem et_yes : EvT (fun (_ : L2.St) H Q => Q true H) σ H true := fun H1 _ _ q => q H1 (Ex.refl H1)
theorem q_unl2 {i j n : Nat} (h : EvL te σ H [x, y]) (hn : 2 = n) (k : ∀ H1, Ex H H1 → tz D ((σ.set i (some x)).set j (some y)) H1) : tSeq (tAsg te (gUnl K n (gCons (gName i) (gCons (gName j) gNil)))) tz D σ H :=
  h H (Ex.refl H) _ fun p H1 _ e hp => ⟨p, [x, y], rfl, sq_of hp, hn, _, _, rfl, _, _, rfl, rfl, k H1 e⟩
theorem eu_tupL {xs : List V} (h : EvL te σ H xs) : EvU (tCB (fun xs H Q => ∃ p ys, xs = [V.ref p] ∧ ((SqL K H p ys ∧ ∀ l, H l = none → Q (V.ref l) (upd H l (.tup ys))) ∨ (SqT K H p ys ∧ Q (V.ref p) H))) (tCons te tNil)) σ H xs := fun H1 e Q q =>
  h H1 e _ fun p H2 hp e2 h2 => ⟨p, xs, rfl, .inl ⟨sq_of h2, fun l hl => q l _ (fresh_back e2 hl) (e2.trans (Ex.new hl)) upd_same⟩⟩
/-- raise C(..) by such an __init__ -/
theorem s_raiseO {C : Addr} {g : List V → List (Str × V) → Prop} {t : TA} {us : List V} {fs : List (Str × V)} (h : EvA t σ H us) (hg : g us fs) (hl : us.length ≤ 1000) (k : Fails H E C fs) :
    tMkO C (spOInit C g) [] t σ H fun cls d H' => E cls d H' := h H (Ex.refl H) _ fun H2 e2 => oinit_fails (W := fun cls d _ H => E cls d H) (σ := σ) hg hl (k.mono e2) fun _ _ _ h => h
end
theorem blank_str : (" " : Str) = mkS [32] := by decide +kernel
theorem hd_of {z : Str} (h : 0 < z.length) : ∃ c r, tl z = c :: r := by
  cases e : tl z with
  | nil =>
    have := len_tl z
    rw [e] at this
    simp at this
    omega
  | cons a b => exact ⟨a, b, rfl⟩
theorem str_eq (a b : Str) : decide (V.str a = V.str b) = decide (a = b) := by
  apply decide_eq_decide.mpr
  constructor
  · intro h; exact V.str.inj h
  · intro h; rw [h]
theorem one_eq (c d : Nat) : decide ((⟨#[c]⟩ : Str) = mkS [d]) = decide (c = d) := by
  apply decide_eq_decide.mpr
  constructor
  · intro h
    have := congrArg tl h
    simpa [tl, mkS] using this
  · intro h; subst h; rfl
theorem inV_strs (z : Str) (ws : List Str) : inV (.str z) (ws.map V.str) = decide (z ∈ ws) := by
  induction ws with
  | nil => rfl
  | cons a r ih =>
    have e : inV (.str z) ((a :: r).map V.str) = ((a == z) || inV (.str z) (r.map V.str)) := rfl
    rw [e, ih]
    have e2 : (a == z) = decide (z = a) := by
      by_cases q : a = z
      · subst q; simp
      · rw [decide_eq_false (fun h => q h.symm)]; simpa using q
    rw [e2, ← Bool.decide_or]
    apply decide_eq_decide.mpr
    rw [List.mem_cons]
theorem flat_strs : ∀ ws : List Str, (ws.map V.str).all flatV = true
  | [] => rfl
  | a :: r => flat_strs r
end SB

set_option maxHeartbeats 4000000
namespace SB
open PySem PySem.Spec PyProof.Rows L2
open TL (tl)
/-! ### the parser, as plain functions of the tokens and the place -/
abbrev Err := Nat × Nat
abbrev PR (α : Type) := Except Err (α × Nat)
def andThen {α β : Type} : PR α → (α → Nat → PR β) → PR β
  | .error e, _ => .error e
  | .ok (a, i), f => f a i
def takeK (ks : List Str) (ts : List Tk) (i : Nat) : PR Tk :=
  match ts[i]? with
  | some t => if decide (t.kind ∈ ks) = true then .ok (t, i + 1) else .error (t.line, t.col)
  | none => .error (0, 0)
def kindAt (ts : List Tk) (i : Nat) : Str := match ts[i]? with
  | some t => t.kind
  | none => ""
structure StepM where
  label : Option Tk
  command : Tk
  target : Option Tk
structure RobM where
  start : Tk
  steps : List StepM
structure PlanM where
  keyword : Tk
  numbers : List Tk
  robots : List RobM
def commands : List Str := ["left", "right", "pick", "put", "wait", "goto", "empty", "held"]
def jumps : List Str := ["goto", "empty", "held"]
def takeLabel (ts : List Tk) (i : Nat) : PR (Option Tk) :=
  if kindAt ts i = "name" then andThen (takeK ["name"] ts i) fun t j => andThen (takeK [":"] ts j) fun _ m => .ok (some t, m) else .ok (none, i)
def takeTarget (c : Tk) (ts : List Tk) (i : Nat) : PR (Option Tk) :=
  if decide (c.kind ∈ jumps) = true then andThen (takeK ["name"] ts i) fun t j => .ok (some t, j) else .ok (none, i)
def takeStep (ts : List Tk) (i : Nat) : PR StepM :=
  andThen (takeLabel ts i) fun lab j => andThen (takeK commands ts j) fun c m => andThen (takeTarget c ts m) fun tg n => andThen (takeK [";"] ts n) fun _ o => .ok (⟨lab, c, tg⟩, o)
/-- the steps up to the closing sign -/
def takeSteps : Nat → List Tk → Nat → PR (List StepM)
  | 0, _, _ => .error (0, 0)
  | n + 1, ts, i => if kindAt ts i = "}" then .ok ([], i) else andThen (takeStep ts i) fun s j => andThen (takeSteps n ts j) fun ss m => .ok (s :: ss, m)
def takeNums : Nat → List Tk → Nat → PR (List Tk)
  | 0, _, _ => .error (0, 0)
  | n + 1, ts, i => if kindAt ts i = "number" then andThen (takeK ["number"] ts i) fun t j => andThen (takeNums n ts j) fun r m => .ok (t :: r, m) else .ok ([], i)
def takeRobot (ts : List Tk) (i : Nat) : PR RobM :=
  andThen (takeK ["robot"] ts i) fun _ j => andThen (takeK ["number"] ts j) fun st m => andThen (takeK ["{"] ts m) fun _ n => andThen (takeStep ts n) fun s o => andThen (takeSteps (ts.length + 1) ts o) fun ss p =>
    andThen (takeK ["}"] ts p) fun _ q => .ok (⟨st, s :: ss⟩, q)
def takePlan (ts : List Tk) (i : Nat) : PR PlanM :=
  andThen (takeK ["shelf"] ts i) fun kw j => andThen (takeK ["number"] ts j) fun n0 m => andThen (takeNums (ts.length + 1) ts m) fun ns n => andThen (takeK [";"] ts n) fun _ o =>
    andThen (takeRobot ts o) fun r0 p => andThen (takeRobot ts p) fun r1 q => andThen (takeK ["end"] ts q) fun _ r => .ok (⟨kw, n0 :: ns, [r0, r1]⟩, r)
/-- the whole text -/
def parse (z : Str) : Except Err PlanM := match lexAll z with
  | .error e => .error e
  | .ok ts => match takePlan ts 0 with
    | .error e => .error e
    | .ok (p, _) => .ok p
theorem andThen_ok {α β : Type} {r : PR α} {f : α → Nat → PR β} {b : β} {j : Nat} (h : andThen r f = .ok (b, j)) : ∃ a i, r = .ok (a, i) ∧ f a i = .ok (b, j) := by
  cases r with
  | error e => cases h
  | ok x => exact ⟨x.1, x.2, rfl, h⟩
/-- the last token is the end's -/
def Ends (ts : List Tk) : Prop := ∀ t, ts[ts.length - 1]? = some t → t.kind = "end"
theorem takeK_ok {ks : List Str} {ts : List Tk} {i j : Nat} {t : Tk} (h : takeK ks ts i = .ok (t, j)) : ts[i]? = some t ∧ t.kind ∈ ks ∧ j = i + 1 := by
  unfold takeK at h
  cases q : ts[i]? with
  | none => rw [q] at h; cases h
  | some u =>
    rw [q] at h
    dsimp only at h
    by_cases m : u.kind ∈ ks
    · rw [if_pos (decide_eq_true m)] at h
      have e := Except.ok.inj h
      obtain ⟨rfl, rfl⟩ := Prod.mk.inj e
      exact ⟨rfl, m, rfl⟩
    · rw [if_neg (by simpa using m)] at h
      cases h
theorem takeK_lt {ks : List Str} {ts : List Tk} {i j : Nat} {t : Tk} (e : Ends ts) (he : ("end" : Str) ∉ ks) (h : takeK ks ts i = .ok (t, j)) : j < ts.length := by
  obtain ⟨h1, h2, rfl⟩ := takeK_ok h
  have hi := (List.getElem?_eq_some_iff.mp h1).1
  by_cases q : i = ts.length - 1
  · rw [q] at h1
    exact absurd (e t h1 ▸ h2) he
  · omega
theorem takeLabel_lt {ts : List Tk} {i j : Nat} {o : Option Tk} (e : Ends ts) (hi : i < ts.length) (h : takeLabel ts i = .ok (o, j)) : i ≤ j ∧ j < ts.length := by
  unfold takeLabel at h
  split at h
  · obtain ⟨a, m, h1, h2⟩ := andThen_ok h
    obtain ⟨b, n, h3, h4⟩ := andThen_ok h2
    have z := Except.ok.inj h4
    obtain ⟨_, rfl⟩ := Prod.mk.inj z
    have := takeK_lt e (by decide +kernel) h3
    have h5 := (takeK_ok h1).2.2
    have h6 := (takeK_ok h3).2.2
    omega
  · have z := Except.ok.inj h
    obtain ⟨_, rfl⟩ := Prod.mk.inj z
    omega
theorem takeTarget_lt {ts : List Tk} {c : Tk} {i j : Nat} {o : Option Tk} (e : Ends ts) (hi : i < ts.length) (h : takeTarget c ts i = .ok (o, j)) : i ≤ j ∧ j < ts.length := by
  unfold takeTarget at h
  split at h
  · obtain ⟨a, m, h1, h2⟩ := andThen_ok h
    have z := Except.ok.inj h2
    obtain ⟨_, rfl⟩ := Prod.mk.inj z
    have := takeK_lt e (by decide +kernel) h1
    have h5 := (takeK_ok h1).2.2
    omega
  · have z := Except.ok.inj h
    obtain ⟨_, rfl⟩ := Prod.mk.inj z
    omega
theorem takeStep_lt {ts : List Tk} {i j : Nat} {s : StepM} (e : Ends ts) (hi : i < ts.length) (h : takeStep ts i = .ok (s, j)) : i < j ∧ j < ts.length := by
  unfold takeStep at h
  obtain ⟨a, m, h1, h⟩ := andThen_ok h
  obtain ⟨b, n, h2, h⟩ := andThen_ok h
  obtain ⟨c, o, h3, h⟩ := andThen_ok h
  obtain ⟨d, p, h4, h⟩ := andThen_ok h
  have z := Except.ok.inj h
  obtain ⟨_, rfl⟩ := Prod.mk.inj z
  have l1 := takeLabel_lt e hi h1
  have l2 := takeK_lt e (by decide +kernel) h2
  have l2' := (takeK_ok h2).2.2
  have l3 := takeTarget_lt e l2 h3
  have l4 := takeK_lt e (by decide +kernel) h4
  have l4' := (takeK_ok h4).2.2
  omega
theorem takeSteps_lt : ∀ {n : Nat} {ts : List Tk} {i j : Nat} {s : List StepM}, Ends ts → i < ts.length → takeSteps n ts i = .ok (s, j) → i ≤ j ∧ j < ts.length
  | 0, ts, i, j, s, e, hi, h => by cases h
  | n + 1, ts, i, j, s, e, hi, h => by
    unfold takeSteps at h
    split at h
    · have z := Except.ok.inj h
      obtain ⟨_, rfl⟩ := Prod.mk.inj z
      omega
    · obtain ⟨a, m, h1, h⟩ := andThen_ok h
      obtain ⟨b, o, h2, h⟩ := andThen_ok h
      have z := Except.ok.inj h
      obtain ⟨_, rfl⟩ := Prod.mk.inj z
      have l1 := takeStep_lt e hi h1
      have l2 := takeSteps_lt e l1.2 h2
      omega
theorem takeNums_lt : ∀ {n : Nat} {ts : List Tk} {i j : Nat} {s : List Tk}, Ends ts → i < ts.length → takeNums n ts i = .ok (s, j) → i ≤ j ∧ j < ts.length
  | 0, ts, i, j, s, e, hi, h => by cases h
  | n + 1, ts, i, j, s, e, hi, h => by
    unfold takeNums at h
    split at h
    · obtain ⟨a, m, h1, h⟩ := andThen_ok h
      obtain ⟨b, o, h2, h⟩ := andThen_ok h
      have z := Except.ok.inj h
      obtain ⟨_, rfl⟩ := Prod.mk.inj z
      have l1 := takeK_lt e (by decide +kernel) h1
      have l1' := (takeK_ok h1).2.2
      have l2 := takeNums_lt e l1 h2
      omega
    · have z := Except.ok.inj h
      obtain ⟨_, rfl⟩ := Prod.mk.inj z
      omega
theorem takeRobot_lt {ts : List Tk} {i j : Nat} {s : RobM} (e : Ends ts) (hi : i < ts.length) (h : takeRobot ts i = .ok (s, j)) : i ≤ j ∧ j < ts.length := by
  unfold takeRobot at h
  obtain ⟨_, a1, h1, h⟩ := andThen_ok h
  obtain ⟨_, a2, h2, h⟩ := andThen_ok h
  obtain ⟨_, a3, h3, h⟩ := andThen_ok h
  obtain ⟨_, a4, h4, h⟩ := andThen_ok h
  obtain ⟨_, a5, h5, h⟩ := andThen_ok h
  obtain ⟨_, a6, h6, h⟩ := andThen_ok h
  have z := Except.ok.inj h
  obtain ⟨_, rfl⟩ := Prod.mk.inj z
  have l1' := (takeK_ok h1).2.2
  have l2' := (takeK_ok h2).2.2
  have l3' := (takeK_ok h3).2.2
  have l3 := takeK_lt e (by decide +kernel) h3
  have l4 := takeStep_lt e l3 h4
  have l5 := takeSteps_lt e l4.2 h5
  have l6 := takeK_lt e (by decide +kernel) h6
  have l6' := (takeK_ok h6).2.2
  omega
/-! ### sizes of what the lexer gives -/
theorem readRow_small : ∀ (n : Nat) (l : List Nat) (line col : Nat) (ts : List Tk), readRow n l line col = .ok ts → ∀ t ∈ ts, t.line = line ∧ t.col ≤ col + l.length
  | 0, l, line, col, ts, h => by
    obtain rfl := Except.ok.inj h
    simp
  | n + 1, [], line, col, ts, h => by
    obtain rfl := Except.ok.inj h
    simp
  | n + 1, c :: r, line, col, ts, h => by
    by_cases q : c = 32
    · subst q
      rw [readRow_blank] at h
      intro t ht
      have := readRow_small n r line (col + 1) ts h t ht
      simp
      omega
    · cases hk : kindOf (longest (c :: r)) with
      | none =>
        rw [readRow_bad q hk] at h
        cases h
      | some k =>
        rw [readRow_tok q hk] at h
        obtain ⟨t2, h2, rfl⟩ := withFront_ok h
        intro t ht
        rcases List.mem_append.mp ht with ht | ht
        · rw [List.mem_singleton.mp ht]
          exact ⟨rfl, by show col ≤ _; omega⟩
        · have := readRow_small n _ line _ t2 h2 t ht
          rw [List.length_drop] at this
          have h4 := longest_le (c :: r)
          omega
theorem readRows_small : ∀ (rows : List Str) (line : Nat) (ts : List Tk) (B : Nat), (∀ r ∈ rows, r.length ≤ B) → readRows rows line = .ok ts → (∀ t ∈ ts, t.line < line + rows.length ∧ t.col ≤ B) ∧ ts.length ≤ (rows.map Str.length).sum
  | [], line, ts, B, _, h => by
    obtain rfl := Except.ok.inj h
    simp
  | z :: r, line, ts, B, hB, h => by
    cases hz : readRow z.length (tl z) line 0 with
    | error e =>
      rw [readRows_cons_bad hz] at h
      cases h
    | ok t1 =>
      rw [readRows_cons_ok hz] at h
      obtain ⟨t2, h2, rfl⟩ := withFront_ok h
      have a := readRow_small _ _ _ _ _ hz
      have b := readRow_len _ _ _ _ _ hz
      have c := readRows_small r (line + 1) t2 B (fun x hx => hB x (List.mem_cons_of_mem _ hx)) h2
      rw [len_tl] at b
      have hzB := hB z (List.mem_cons_self ..)
      constructor
      · intro t ht
        rcases List.mem_append.mp ht with ht | ht
        · have := a t ht
          rw [len_tl] at this
          simp
          omega
        · have := c.1 t ht
          simp
          omega
      · have := c.2
        simp only [List.length_append, List.map_cons, List.sum_cons]
        omega
theorem mem_le_sum : ∀ (l : List Nat) (x : Nat), x ∈ l → x ≤ l.sum
  | a :: l, x, h => by
    rcases List.mem_cons.mp h with h | h
    · subst h
      simp
    · have := mem_le_sum l x h
      simp
      omega
theorem lex_facts {z : Str} {ts : List Tk} (h : lexAll z = .ok ts) : (∀ t ∈ ts, t.line ≤ z.length + 1 ∧ t.col ≤ z.length + 1) ∧ ts.length ≤ z.length + 2 ∧ 0 < ts.length ∧ Ends ts := by
  unfold lexAll at h
  cases hr : readRows (Txt.split z "\n") 0 with
  | error e =>
    rw [hr] at h
    cases h
  | ok t1 =>
    rw [hr] at h
    obtain rfl := Except.ok.inj h
    have rl := rows_len z
    have sp := PyProof.Rows.split_pos z "\n"
    have a := readRows_small _ _ _ (z.length + 1) (fun r hr => by
      have := mem_le_sum ((Txt.split z "\n").map Str.length) r.length (List.mem_map.mpr ⟨r, hr, rfl⟩)
      omega) hr
    refine ⟨fun t ht => ?_, ?_, ?_, ?_⟩
    · rcases List.mem_append.mp ht with ht | ht
      · have := a.1 t ht
        omega
      · rw [List.mem_singleton.mp ht]
        show (Txt.split z "\n").length ≤ z.length + 1 ∧ 0 ≤ z.length + 1
        omega
    · rw [List.length_append]
      have := a.2
      simp
      omega
    · rw [List.length_append]
      simp
    · intro t ht
      rw [List.length_append, List.length_singleton, Nat.add_sub_cancel, List.getElem?_append_right (Nat.le_refl _), Nat.sub_self] at ht
      obtain rfl : endTk _ = t := Option.some.inj ht
      rfl
end SB

set_option maxHeartbeats 4000000
namespace SB
open PySem PySem.Spec PyProof.Rows L2
open TL (tl)
open Evl
variable {P : Program} {w : World} {K : PySem.W.Frag} {mg : Str → Option Value} {base : Heap}


/-- is_valid_number -/
def spVN : Sp := fun vs H Q _ => ∃ z : Str, vs = [.str z] ∧ z.length ≤ big ∧ 0 < z.length ∧ RetV (.bl (validNum (tl z))) H Q
theorem zero_str : ("0" : Str) = mkS [48] := by decide +kernel
theorem eq_zero (z : Str) : decide (z = ("0" : Str)) = decide (tl z = [48]) := by
  apply decide_eq_decide.mpr
  rw [zero_str]
  constructor
  · intro h; rw [h]; rfl
  · intro h; rw [← mkS_tl z, h]
theorem letters_name : letters = ("abcdefghijklmnopqrstuvwxyz" : Str) := rfl
theorem digits_name : digits = ("0123456789" : Str) := rfl
/-- kind_of -/
def spKind (K : PySem.W.Frag) : Sp := fun vs H Q E => ∃ (z : Str) (l c : Nat), vs = [.str z, .int l, .int c] ∧ z.length ≤ big ∧ 0 < z.length ∧ l ≤ big ∧ c ≤ big ∧
  (∀ k, kindOf (tl z) = some k → RetV (.str k) H Q) ∧ (kindOf (tl z) = none → Fails H E (He.ga K "SyntaxFault") (sfF l c))
theorem kind_eq (z : Str) {ch : Nat} {r : List Nat} (hl : tl z = ch :: r) : kindOf (tl z) = if decide (z ∈ keyw) || decide (z ∈ sign) then some z else if isL ch && decide ((tl z).length ≤ 8) then some "name" else if isD ch && validNum (tl z) then some "number" else none := by
  show (if decide (mkS (tl z) ∈ keyw) || decide (mkS (tl z) ∈ sign) then some (mkS (tl z)) else _) = _
  rw [mkS_tl, hl]
theorem small_of {n : Nat} (h : n ≤ big) : smallI (n : Int) := ⟨by omega, by have : big = 1000000 := rfl; omega⟩

theorem ok_is_valid_number (T : Txt K mg) : FnR P w K mg base (L2.CX P w) 1 (He.ga K "is_valid_number") spVN := by
  obtain ⟨fd, F⟩ := T.F_is_valid_number
  have B : Binds K fd P_is_valid_number [] := F.bindsN fun _ _ _ _ _ _ us hl => match us, hl with | [_], _ => rfl
  refine fnR_of F B (F.ok sc_is_valid_number (fun vs H Q E h => ?_) (fun cdv A outer s H vs Q E hr h => ?_))
  · obtain ⟨z, rfl, _⟩ := h
    rfl
  · have hu := hu_of hr
    obtain ⟨z, rfl, hz, hp, k⟩ := h
    refine ⟨_, (pss_one (ps_ret (pe_and (pe_cmpR op_le (pe_callB call_len_str (by rfl) T.b_len (by decide +kernel) (pa_cons (pv 0) pa_nil)) (pe_gi T.v_LONGEST_NUMBER) (nomark _)) (pe_one (pe_or (pe_cmpR op_eq (pv 0) pe_str (nomark _)) (pe_one (pe_cmpR op_ne (pe_ix ix_str (pv 0) pe_int (fun _ _ => rfl)) pe_str (nomark _)))))))), ?_⟩
    obtain ⟨c, r, hl⟩ := hd_of hp
    have hi : (tl z)[0]? = some c := by rw [hl]; rfl
    have ls := big_line hz
    refine s_ret (ev_is (ev_andV (ev_op (ev_lenS (ev_var rfl) ls) ev_c rv_I0) fun _ => ev_orV (ev_op (ev_var rfl) ev_c (rv_eq rfl)) fun _ => ev_op (ev_op (ev_var rfl) ev_c (rv_ixS' ls hi)) ev_c (rv_ne rfl)) ?_) k
    rw [str_eq, str_eq, eq_zero, zero_str, one_eq]
    show _ = V.bl (decide ((tl z).length ≤ 2) && (decide (tl z = [48]) || !decide ((tl z).head? = some 48)))
    rw [len_tl, hl]
    congr 2
    · apply decide_eq_decide.mpr; omega
    · congr 2
      apply decide_eq_decide.mpr
      simp

theorem ok_kind_of (T : Txt K mg) : FnR P w K mg base (L2.CX P w) 3 (He.ga K "kind_of") (spKind K) := by
  obtain ⟨fd_SyntaxFault, GI_SyntaxFault, BI_SyntaxFault⟩ := ok_SyntaxFault_init (P := P) (w := w) (base := base) T
  have G_is_valid_number := ok_is_valid_number (P := P) (w := w) (base := base) T
  have KP_is_valid_number : PySem.W.keepIn K (.ref (He.ga K "is_valid_number")) = true := by
    obtain ⟨_, F⟩ := T.F_is_valid_number
    exact F.kp
  obtain ⟨fd, F⟩ := T.F_kind_of
  have B : Binds K fd P_kind_of [] := F.bindsN fun _ _ _ _ _ _ us hl => match us, hl with | [_, _, _], _ => rfl
  refine fnR_of F B (F.ok sc_kind_of (fun vs H Q E h => ?_) (fun cdv A outer s H vs Q E hr h => ?_))
  · obtain ⟨z, l, c, rfl, _⟩ := h
    rfl
  · have hu := hu_of hr
    obtain ⟨z, l, c, rfl, hz, hp, hlb, hc, k, kE⟩ := h
    refine ⟨_, (pss_cons (ps_if (pw_or (pt_cmpR op_in_seq (pv 0) (pe_gr T.g_KEYWORDS) (by rfl)) (pw_or1 (pt_cmpR op_in_seq (pv 0) (pe_gr T.g_SIGNS) (by rfl)))).pt (pss_one (ps_ret (pv 0))) pss_nil)
        (pss_cons (ps_if (pw_and (pt_cmpR op_in_sign (pe_ix ix_str (pv 0) pe_int (fun _ _ => rfl)) (pe_gs T.v_LETTERS) (by rfl)) (pw_and1 (pt_cmpR op_le (pe_callB call_len_str (by rfl) T.b_len (by decide +kernel) (pa_cons (pv 0) pa_nil)) (pe_gi T.v_LONGEST_NAME) (nomark _)))).pt (pss_one (ps_ret (pe_gs T.v_NAME))) pss_nil)
        (pss_cons (ps_if (pw_and (pt_cmpR op_in_sign (pe_ix ix_str (pv 0) pe_int (fun _ _ => rfl)) (pe_gs T.v_DIGITS) (by rfl)) (pw_and1 (pt_val (pe_callR G_is_valid_number (hr.mono (by decide)) T.g_is_valid_number KP_is_valid_number px (pa_cons (pv 0) pa_nil))))).pt (pss_one (ps_ret (pe_gs T.v_NUMBER))) pss_nil)
        (pss_one (ps_raise rfl (takes_of rfl rfl rfl rfl) (pmk_oex T.x_SyntaxFault T.i_SyntaxFault T.ti_SyntaxFault GI_SyntaxFault (hr.mono (by decide)) BI_SyntaxFault .nil passL rfl T.g_SyntaxFault (pa_cons (pv 1) (pa_cons (pv 2) pa_nil)))))))), ?_⟩
    obtain ⟨ch, r, hl⟩ := hd_of hp
    have hi : (tl z)[0]? = some ch := by rw [hl]; rfl
    have ls := big_line hz
    have eK := kind_eq z hl
    refine q_when (b := decide (z ∈ keyw) || decide (z ∈ sign)) (et_or (et_test (ev_is (ev_op (ev_var rfl) ev_c (rv_isT (T.t_KEYWORDS _) rfl (flat_strs keyw))) (congrArg V.bl (inV_strs z keyw))))
      fun _ => et_test (ev_is (ev_op (ev_var rfl) ev_c (rv_isT (T.t_SIGNS _) rfl (flat_strs sign))) (congrArg V.bl (inV_strs z sign)))) (fun hb H1 e1 => ?_) (fun hb H1 e1 => ?_)
    · exact s_ret (ev_var rfl) fun H2 e2 => k z (by rw [eK, hb]; rfl) H2 (e1.trans e2)
    rw [hb] at eK
    refine q_when (b := isL ch && decide ((tl z).length ≤ 8)) (et_and (et_test (ev_is (ev_op (ev_op (ev_var rfl) ev_c (rv_ixS' ls hi)) ev_c rv_inS) (congrArg V.bl (mem_letters ch))))
      fun _ => et_test (ev_is (ev_op (ev_lenS (ev_var rfl) ls) ev_c rv_I0) ?_)) (fun hb H2 e2 => ?_) (fun hb H2 e2 => ?_)
    · show V.bl _ = V.bl _
      rw [len_tl]
      congr 1
      apply decide_eq_decide.mpr
      omega
    · exact s_ret ev_c fun H3 e3 => k "name" (by rw [eK, hb]; rfl) H3 ((e1.trans e2).trans e3)
    rw [hb] at eK
    refine q_when (b := isD ch && validNum (tl z)) (et_and (et_test (ev_is (ev_op (ev_op (ev_var rfl) ev_c (rv_ixS' ls hi)) ev_c rv_inS) (congrArg V.bl (mem_digits ch))))
      fun _ => et_B (ev_callR (ea_cons (ev_var rfl) ea_nil) fun H3 e3 Q3 q3 => ⟨z, rfl, hz, hp, q3⟩)) (fun hb H3 e3 => ?_) (fun hb H3 e3 => ?_)
    · exact s_ret ev_c fun H4 e4 => k "number" (by rw [eK, hb]; rfl) H4 (((e1.trans e2).trans e3).trans e4)
    rw [hb] at eK
    exact s_raiseO (ea_cons (ev_var rfl) (ea_cons (ev_var rfl) ea_nil)) ⟨l, c, rfl, rfl, small_of hlb, small_of hc⟩ (by show 2 ≤ 1000; decide) (Fails.mono (kE eK) ((e1.trans e2).trans e3))


/-- longest_text: the row z, at the column c -/
def spLong : Sp := fun vs H Q _ => ∃ (z : Str) (c : Nat), vs = [.str z, .int c] ∧ z.length ≤ big ∧ c < z.length ∧ RetV (.str (mkS (longest ((tl z).drop c)))) H Q
/-- the end of the signs of a kind from c on -/
def runEnd (p : Nat → Bool) (l : List Nat) (c : Nat) : Nat := c + ((l.drop c).takeWhile p).length
theorem tw_get {p : Nat → Bool} : ∀ {m : List Nat} {j : Nat}, j < (m.takeWhile p).length → ∃ x, m[j]? = some x ∧ p x = true
  | [], j, h => by simp at h
  | a :: r, j, h => by
    by_cases q : p a = true
    · rw [List.takeWhile_cons_of_pos q, List.length_cons] at h
      match j, h with
      | 0, _ => exact ⟨a, rfl, q⟩
      | j + 1, h => exact tw_get (m := r) (j := j) (by omega)
    · rw [List.takeWhile_cons_of_neg q] at h
      simp at h
theorem run_more {p : Nat → Bool} {l : List Nat} {c e : Nat} (hc : c ≤ e) (he : e < runEnd p l c) : ∃ x, l[e]? = some x ∧ p x = true := by
  unfold runEnd at he
  obtain ⟨x, h1, h2⟩ := tw_get (p := p) (m := l.drop c) (j := e - c) (by omega)
  rw [List.getElem?_drop, show c + (e - c) = e by omega] at h1
  exact ⟨x, h1, h2⟩
theorem run_stop {p : Nat → Bool} {l : List Nat} {c : Nat} {x : Nat} (h : l[runEnd p l c]? = some x) : p x = false := by
  unfold runEnd at h
  rw [← List.getElem?_drop] at h
  revert h
  generalize l.drop c = m
  intro h
  induction m with
  | nil => simp at h
  | cons a r ih =>
    by_cases q : p a = true
    · rw [List.takeWhile_cons_of_pos q, List.length_cons] at h
      exact ih (by simpa using h)
    · rw [List.takeWhile_cons_of_neg q] at h
      simp at h
      rw [← h]
      simpa using q


/-- the loop's body, as it is read -/
abbrev tLongBody : TS := tSeq (tAsg (tVar 1) (gName 3)) (tSeq
  (tWhile (tAnd (tTest (tOp (rI0 fun i j => V.bl (decide (i < j))) (tVar 3) (tCB (fun xs H Q => ∃ z, xs = [V.str z] ∧ z.length ≤ sizeLine ∧ Q (V.int z.length) H) (tCons (tVar 0) tNil))))
      (tTest (tOp (fun x y H Q => ∃ (c : Nat) (z : Str), x = V.str ⟨#[c]⟩ ∧ y = V.str z ∧ Q (V.bl (decide (c ∈ z.cps.toList))) H) (tOp rIxS (tVar 0) (tVar 3)) (tVar 2))))
    (tAug 3 (tC (V.int 1)) (ipI fun i j => i + j)))
  (tIfS (tTest (tOp (rI0 fun i j => V.bl (decide (j < i))) (tVar 3) (tVar 1))) (tRet (tSl rSlS (tVar 0) (tPart (tVar 1)) (tPart (tVar 3)))) tNext))
theorem sIx_nat {n d k : Nat} (h : k ≤ n) : HT.sIx n d (some (k : Int)) = k := by
  rw [HT.sIx_nat]
  exact Nat.min_eq_left h
theorem run_le (p : Nat → Bool) (l : List Nat) (c : Nat) (h : c ≤ l.length) : runEnd p l c ≤ l.length := by
  have := takeWhile_le p (l.drop c)
  rw [List.length_drop] at this
  unfold runEnd
  omega
theorem cut_run {p : Nat → Bool} {z : Str} {c : Nat} (h : c ≤ z.length) : cutS z (some (c : Int)) (some ((runEnd p (tl z) c : Nat) : Int)) = mkS (((tl z).drop c).takeWhile p) := by
  have hl := run_le p (tl z) c (by rw [len_tl]; exact h)
  rw [len_tl] at hl
  unfold cutS
  rw [show HT.sIx z.length 0 (some (c : Int)) = c from sIx_nat h, show HT.sIx z.length z.length (some ((runEnd p (tl z) c : Nat) : Int)) = runEnd p (tl z) c from sIx_nat hl]
  unfold mkS runEnd
  rw [show c + (((tl z).drop c).takeWhile p).length - c = (((tl z).drop c).takeWhile p).length by omega]
  exact congrArg (fun l => Str.mk (List.toArray l)) (takeWhile_take p ((tl z).drop c))
theorem run_test {p : Nat → Bool} {z : Str} {c e : Nat} (hc : c ≤ e) (he : e ≤ runEnd p (tl z) c) (hz : c ≤ z.length) : (decide ((e : Int) < (z.length : Int)) && (((tl z)[e]?.map p).getD false)) = decide (e < runEnd p (tl z) c) := by
  have hl := run_le p (tl z) c (by rw [len_tl]; exact hz)
  rw [len_tl] at hl
  by_cases q : e < runEnd p (tl z) c
  · obtain ⟨x, h1, h2⟩ := run_more hc q
    rw [h1, decide_eq_true q, decide_eq_true (by omega : (e : Int) < z.length)]
    simpa using h2
  · have eq : e = runEnd p (tl z) c := by omega
    rw [decide_eq_false q]
    cases h : (tl z)[e]? with
    | none => simp
    | some x =>
      have h2 : (tl z)[runEnd p (tl z) c]? = some x := by rw [← eq]; exact h
      have := run_stop h2
      simp [this]

theorem ok_longest_text (T : Txt K mg) : FnR P w K mg base (L2.CX P w) 1 (He.ga K "longest_text") spLong := by
  obtain ⟨fd, F⟩ := T.F_longest_text
  have B : Binds K fd P_longest_text [] := F.bindsN fun _ _ _ _ _ _ us hl => match us, hl with | [_, _], _ => rfl
  refine fnR_of F B (F.ok sc_longest_text (fun vs H Q E h => ?_) (fun cdv A outer s H vs Q E hr h => ?_))
  · obtain ⟨z, c, rfl, _⟩ := h
    rfl
  · have hu := hu_of hr
    obtain ⟨z, c, rfl, hz, hc, k⟩ := h
    refine ⟨_, (pss_cons (ps_for (passes_of rfl) rfl (pi_tup (pe_tup (pa_cons (pe_gs T.v_LETTERS) (pa_cons (pe_gs T.v_DIGITS) pa_nil)))) (pg_name (i := 2) sc_longest_text.nd rfl (Or.inl rfl)) (pss_cons (ps_set (i := 3) sc_longest_text.nd rfl (Or.inl rfl) (pv 1))
        (pss_cons (ps_while (passes_of rfl) (pw_and (pt_cmpR op_lt (pv 3) (pe_callB call_len_str (by rfl) T.b_len (by decide +kernel) (pa_cons (pv 0) pa_nil)) (nomark _)) (pw_and1 (pt_cmpR op_in_sign (pe_ix ix_str (pv 0) (pv 3) (fun _ _ => rfl)) (pv 2) (by rfl)))).pt (pss_one (ps_aug (i := 3) sc_longest_text.nd rfl (Or.inl rfl) pe_int ip_add)))
        (pss_one (ps_if (pt_cmpR op_gt (pv 3) (pv 1) (nomark _)) (pss_one (ps_ret (pe_slice sl_str (pv 0) (po_some (pv 1)) (po_some (pv 3))))) pss_nil)))))
        (pss_one (ps_ret (pe_ix ix_str (pv 0) (pv 1) (fun _ _ => rfl))))), ?_⟩
    have ls := big_line hz
    have turn : ∀ (wd : Str) (p : Nat → Bool), (∀ x, decide (x ∈ wd.cps.toList) = p x) → ∀ (b : Option V) (H1 : Hp) (D : L2.Ends), Ex H H1 → D.rt = Q →
        (((tl z).drop c).takeWhile p ≠ [] → mkS (((tl z).drop c).takeWhile p) = mkS (longest ((tl z).drop c))) →
        (((tl z).drop c).takeWhile p = [] → ∀ (e : Option V) H2, Ex H H2 → Ex H1 H2 → D.nx [some (.str z), some (.int c), some (.str wd), e] H2) → tLongBody D [some (.str z), some (.int c), some (.str wd), b] H1 := by
      intro wd p hp b H1 D e1 eD hy hn
      refine q_asg (ev_var rfl) fun H2 e2 => ?_
      refine q_while (fun m σ' H' => Ex H1 H' ∧ ∃ e : Nat, σ' = [some (.str z), some (.int c), some (.str wd), some (.int e)] ∧ c ≤ e ∧ e ≤ runEnd p (tl z) c ∧ m = runEnd p (tl z) c - e) _
        ⟨e2, c, rfl, Nat.le_refl c, Nat.le_add_right _ _, rfl⟩ ?_
      rintro m σ' H' ⟨e3, e, rfl, h1, h2, rfl⟩
      refine ⟨decide (e < runEnd p (tl z) c), et_is (et_and (b := ((tl z)[e]?.map p).getD false) (et_test (ev_op (ev_var rfl) (ev_lenS (ev_var rfl) ls) rv_I0)) fun hlt => ?_) (run_test h1 h2 (Nat.le_of_lt hc)), fun hb H4 e4 => ?_, fun hb H4 e4 => ?_⟩
      · have hlt2 : (e : Int) < (z.length : Int) := of_decide_eq_true hlt
        have hx : e < (tl z).length := by rw [len_tl]; omega
        refine et_test (ev_is (ev_op (ev_op (ev_var rfl) (ev_var rfl) (rv_ixS' (c := (tl z)[e]) ls (List.getElem?_eq_getElem hx))) (ev_var rfl) rv_inS) ?_)
        rw [hp, List.getElem?_eq_getElem hx]
        rfl
      · have hb2 : e < runEnd p (tl z) c := of_decide_eq_true hb
        refine ⟨fun σ2 H2 => Ex H1 H2 ∧ ∃ e' : Nat, σ2 = [some (.str z), some (.int c), some (.str wd), some (.int e')] ∧ c ≤ e' ∧ e' ≤ runEnd p (tl z) c ∧ e' = e + 1, ?_, ?_⟩
        · rintro σ2 H2 ⟨a, e', b1, b2, b3, b4⟩
          exact ⟨_, by omega, a, e', b1, b2, b3, rfl⟩
        · exact s_aug rfl ev_c fun H5 e5 => ⟨(e3.trans e4).trans e5, e + 1, by simp, by omega, by omega, rfl⟩
      · have hb2 : ¬ e < runEnd p (tl z) c := of_decide_eq_false hb
        have ee : e = runEnd p (tl z) c := by omega
        subst ee
        refine s_when (et_test (ev_op (ev_var rfl) (ev_var rfl) rv_I0)) (fun hg H5 e5 => ?_) (fun hg H5 e5 => ?_)
        · have hg2 : (c : Int) < (runEnd p (tl z) c : Nat) := of_decide_eq_true hg
          refine s_ret (ev_slS (ev_var rfl) (eo_some (ev_var rfl)) (eo_some (ev_var rfl)) ls) fun H6 e6 => ?_
          have ne : ((tl z).drop c).takeWhile p ≠ [] := by
            intro q
            unfold runEnd at hg2
            rw [q] at hg2
            simp at hg2
          rw [cut_run (Nat.le_of_lt hc), hy ne]
          show D.rt _ _
          rw [eD]
          exact k _ ((((e1.trans e3).trans e4).trans e5).trans e6)
        · have hg2 : ¬ (c : Int) < (runEnd p (tl z) c : Nat) := of_decide_eq_false hg
          have ne : ((tl z).drop c).takeWhile p = [] := by
            cases q : ((tl z).drop c).takeWhile p with
            | nil => rfl
            | cons a r =>
              exfalso
              apply hg2
              unfold runEnd
              rw [q]
              simp
              omega
          exact hn ne _ _ ((((e1.trans e3).trans e4)).trans e5) ((e3.trans e4).trans e5)
    -- for characters in (LETTERS, DIGITS)
    refine q_forNU (xs := [.str letters, .str digits]) (eu_tup (ea_cons ev_c (ea_cons ev_c ea_nil)) (by decide)) (fun p i σ' H' => Ex H H' ∧ H' p = some (.tup [.str letters, .str digits]) ∧ (∃ a b, σ' = [some (.str z), some (.int c), a, b]) ∧
      (0 < i → ((tl z).drop c).takeWhile isL = []) ∧ (1 < i → ((tl z).drop c).takeWhile isD = []))
      (fun p H1 hp e h1 => ⟨e, h1, ⟨none, none, rfl⟩, fun h => absurd h (by omega), fun h => absurd h (by omega)⟩) (fun p i σ' H' _ ⟨_, h1, _⟩ => st_of h1) ?_ ?_
    · rintro p i x σ' H' hx ⟨e, h1, ⟨a, b, rfl⟩, w1, w2⟩
      match i, hx with
      | 0, hx =>
        obtain rfl : V.str letters = x := Option.some.inj hx
        refine turn letters isL mem_letters b H' _ e rfl (fun ne => by rw [longest_L ne]) (fun ne e' H2 e3 e4 => ⟨e3, e4 _ _ h1, ⟨_, _, rfl⟩, fun _ => ne, fun h => absurd h (by omega)⟩)
      | 1, hx =>
        obtain rfl : V.str digits = x := Option.some.inj hx
        have n1 := w1 (by omega)
        refine turn digits isD mem_digits b H' _ e rfl (fun ne => by rw [longest_D n1 ne]) (fun ne e' H2 e3 e4 => ⟨e3, e4 _ _ h1, ⟨_, _, rfl⟩, fun _ => n1, fun _ => ne⟩)
      | i + 2, hx => simp at hx
    · rintro p σ' H' ⟨e, h1, ⟨a, b, rfl⟩, w1, w2⟩
      have n1 := w1 (by show 0 < 2; decide)
      have n2 := w2 (by show 1 < 2; decide)
      have hx : c < (tl z).length := by rw [len_tl]; exact hc
      refine s_ret (ev_op (ev_var rfl) (ev_var rfl) (rv_ixS' (c := (tl z)[c]) ls (List.getElem?_eq_getElem hx))) fun H2 e2 => ?_
      have e3 : mkS (longest ((tl z).drop c)) = ⟨#[(tl z)[c]]⟩ := by
        rw [longest_1 n1 n2, List.drop_eq_getElem_cons hx]
        rfl
      rw [← e3]
      exact k _ (e.trans e2)


def ToksAt (K : PySem.W.Frag) (H : Hp) (v : V) (ts : List Tk) : Prop := LAt H (TokAt K H) v ts
/-- how a def that lexes ends: r is the mirror's answer -/
def Lexes (K : PySem.W.Frag) (H : Hp) (Q : VK) (E : XK) (r : Res) : Prop := (∀ ts, r = .ok ts → ∀ v H', Ex H H' → ToksAt K H' v ts → Q v H') ∧ (∀ l c, r = .error (l, c) → Fails H E (He.ga K "SyntaxFault") (sfF (l : Nat) (c : Nat)))
def spRow (K : PySem.W.Frag) : Sp := fun vs H Q E => ∃ (z : Str) (l : Nat), vs = [.str z, .int l] ∧ z.length ≤ big ∧ l ≤ big ∧ Lexes K H Q E (readRow z.length (tl z) l 0)

theorem ok_read_row (T : Txt K mg) : FnR P w K mg base (L2.CX P w) 4 (He.ga K "read_row") (spRow K) := by
  have G_longest_text := ok_longest_text (P := P) (w := w) (base := base) T
  have KP_longest_text : PySem.W.keepIn K (.ref (He.ga K "longest_text")) = true := by
    obtain ⟨_, F⟩ := T.F_longest_text
    exact F.kp
  have G_Token_init := ok_Token_init (P := P) (w := w) (base := base) T
  have G_kind_of := ok_kind_of (P := P) (w := w) (base := base) T
  have KP_kind_of : PySem.W.keepIn K (.ref (He.ga K "kind_of")) = true := by
    obtain ⟨_, F⟩ := T.F_kind_of
    exact F.kp
  obtain ⟨fd, F⟩ := T.F_read_row
  have B : Binds K fd P_read_row [] := F.bindsN fun _ _ _ _ _ _ us hl => match us, hl with | [_, _], _ => rfl
  refine fnR_of F B (F.ok sc_read_row (fun vs H Q E h => ?_) (fun cdv A outer s H vs Q E hr h => ?_))
  · obtain ⟨z, l, rfl, _⟩ := h
    rfl
  · have hu := hu_of hr
    obtain ⟨z, l, rfl, hz, hlb, k⟩ := h
    refine ⟨_, (pss_cons (ps_set (i := 2) sc_read_row.nd rfl (Or.inl rfl) (pe_lst pa_nil))
        (pss_cons (ps_set (i := 3) sc_read_row.nd rfl (Or.inl rfl) pe_int)
        (pss_cons (ps_while (passes_of rfl) (pt_cmpR op_lt (pv 3) (pe_callB call_len_str (by rfl) T.b_len (by decide +kernel) (pa_cons (pv 0) pa_nil)) (nomark _)) (pss_one (ps_if (pt_cmpR op_eq (pe_ix ix_str (pv 0) (pv 3) (fun _ _ => rfl)) pe_str (nomark _)) (pss_one (ps_aug (i := 3) sc_read_row.nd rfl (Or.inl rfl) pe_int ip_add)) (pss_cons (ps_set (i := 4) sc_read_row.nd rfl (Or.inl rfl) (pe_callR G_longest_text (hr.mono (by decide)) T.g_longest_text KP_longest_text px (pa_cons (pv 0) (pa_cons (pv 3) pa_nil))))
        (pss_cons (ps_expr (pe_bm PySem.F.plainAttrs_list PySem.F.slot_list_append PySem.F.type_list_append mt_append (pv 2) (pa_cons (StX.pe_makeR T.k_Token G_Token_init (hr.mono (by decide)) (by rfl) T.g_Token px (pa_cons (pe_callR G_kind_of (hr.mono (by decide)) T.g_kind_of KP_kind_of px (pa_cons (pv 4) (pa_cons (pv 1) (pa_cons (pv 3) pa_nil)))) (pa_cons (pv 4) (pa_cons (pv 1) (pa_cons (pv 3) pa_nil))))) pa_nil)))
        (pss_one (ps_aug (i := 3) sc_read_row.nd rfl (Or.inl rfl) (pe_callB call_len_str (by rfl) T.b_len (by decide +kernel) (pa_cons (pv 4) pa_nil)) ip_add)))))))
        (pss_one (ps_ret (pv 2)))))), ?_⟩
    have ls := big_line hz
    have bl : big < sizeLine := by decide
    refine q_asgL (el_lst ea_nil (by decide)) fun p H1 hp e1 h1 => ?_
    refine q_asg ev_c fun H2 e2 => ?_
    refine q_while (fun m σ' H' => ∃ (vs : List V) (acc : List Tk) (c n : Nat) (b : Option V), σ' = [some (.str z), some (.int l), some (.ref p), some (.int c), b] ∧ Ex H H' ∧ H' p = some (.lst vs) ∧ All (TokAt K H') vs acc ∧
        c ≤ z.length ∧ acc.length ≤ c ∧ z.length - c ≤ n ∧ readRow z.length (tl z) l 0 = withFront acc (readRow n ((tl z).drop c) l c) ∧ m = z.length - c) _
      ⟨[], [], 0, z.length, none, rfl, e1.trans e2, e2 _ _ h1, .nil, Nat.zero_le _, Nat.le_refl _, Nat.le_refl _, by rw [withFront_nil, List.drop_zero], rfl⟩ ?_
    rintro m σ' H' ⟨vs, acc, c, n, b, rfl, e3, h3, ht, hc, hal, hn, hr', rfl⟩
    refine ⟨decide ((c : Int) < (z.length : Int)), et_test (ev_op (ev_var rfl) (ev_lenS (ev_var rfl) ls) rv_I0), fun hb H4 e4 => ?_, fun hb H4 e4 => ?_⟩
    · have hlt : (c : Int) < (z.length : Int) := of_decide_eq_true hb
      have hx : c < (tl z).length := by rw [len_tl]; omega
      obtain ⟨x, hxe⟩ : ∃ x, (tl z)[c]? = some x := ⟨_, List.getElem?_eq_getElem hx⟩
      have hd : (tl z).drop c = x :: (tl z).drop (c + 1) := by
        rw [List.drop_eq_getElem_cons hx]
        rw [List.getElem?_eq_getElem hx] at hxe
        rw [Option.some.inj hxe]
      obtain ⟨n, rfl⟩ : ∃ n', n = n' + 1 := ⟨n - 1, by omega⟩
      refine ⟨fun σ2 H2 => ∃ (vs : List V) (acc : List Tk) (c' n : Nat) (b : Option V), σ2 = [some (.str z), some (.int l), some (.ref p), some (.int c'), b] ∧ Ex H H2 ∧ H2 p = some (.lst vs) ∧ All (TokAt K H2) vs acc ∧
        c' ≤ z.length ∧ acc.length ≤ c' ∧ z.length - c' ≤ n ∧ readRow z.length (tl z) l 0 = withFront acc (readRow n ((tl z).drop c') l c') ∧ c < c', ?_, ?_⟩
      · rintro σ2 H2 ⟨vs, acc, c', n, b, q1, q2, q3, q4, q5, q6, q7, q8, q9⟩
        exact ⟨z.length - c', by omega, vs, acc, c', n, b, q1, q2, q3, q4, q5, q6, q7, q8, rfl⟩
      refine s_if (b := decide (x = 32)) (et_test (ev_is (ev_op (ev_op (ev_var rfl) (ev_var rfl) (rv_ixS' ls hxe)) ev_c (rv_eq rfl)) ?_)) (fun hsp H5 e5 => ?_) (fun hsp H5 e5 => ?_)
      · rw [str_eq, blank_str, one_eq]
      · have hx32 : x = 32 := of_decide_eq_true hsp
        subst hx32
        rw [hd, readRow_blank] at hr'
        exact s_aug rfl ev_c fun H6 e6 => ⟨vs, acc, c + 1, n, b, rfl, ((e3.trans e4).trans e5).trans e6, ((e4.trans e5).trans e6) _ _ h3, ht.imp fun v x h => h.mono ((e4.trans e5).trans e6), by omega, by omega, by omega, hr', Nat.lt_succ_self c⟩
      · have hx32 : x ≠ 32 := of_decide_eq_false hsp
        have e45 := e4.trans e5
        have hlp := longest_pos x ((tl z).drop (c + 1))
        have hll := longest_le (x :: (tl z).drop (c + 1))
        have hdl : (x :: (tl z).drop (c + 1)).length = z.length - c := by rw [← hd, List.length_drop, len_tl]
        rw [← hd] at hlp hll hdl
        refine q_asg (ev_callR (ea_cons (ev_var rfl) (ea_cons (ev_var rfl) ea_nil)) fun H6 e6 Q6 q6 => ⟨z, c, rfl, hz, by omega, q6⟩) fun H6 e6 => ?_
        have hkz : (mkS (longest ((tl z).drop c))).length = (longest ((tl z).drop c)).length := mkS_len _
        cases hk : kindOf (longest ((tl z).drop c)) with
        | none =>
          rw [hd] at hk hr'
          rw [readRow_bad hx32 hk] at hr'
          rw [← hd] at hk
          have kE := k.2 l c (by rw [hr']; rfl)
          refine ⟨_, rfl, Or.inl ⟨rfl, _, sq_of ((e45.trans e6) _ _ h3)⟩, ?_⟩
          refine ⟨_, rfl, _, rfl, _, rfl, ?_⟩
          exact ⟨_, l, c, rfl, by omega, by omega, hlb, by omega, (fun kk hkk => by
            rw [show tl (mkS (longest ((tl z).drop c))) = longest ((tl z).drop c) from rfl, hk] at hkk
            exact nomatch hkk), fun _ => kE.mono ((e3.trans e45).trans e6)⟩
        | some kd =>
          rw [hd] at hk hr'
          rw [readRow_tok hx32 hk] at hr'
          rw [← hd] at hk hr'
          refine q_appP (P := fun v H2 => TokAt K H2 v ⟨kd, mkS (longest ((tl z).drop c)), l, c⟩) ((e45.trans e6) _ _ h3) (ev_var rfl) (ep_make (ea_cons (ev_callR (z := .str kd) (ea_cons (ev_var rfl) (ea_cons (ev_var rfl) (ea_cons (ev_var rfl) ea_nil)))
              fun H7 e7 Q7 q7 => ⟨_, l, c, rfl, by omega, by omega, hlb, by omega, fun kk hkk => ?_, fun hkk => ?_⟩) (ea_cons (ev_var rfl) (ea_cons (ev_var rfl) (ea_cons (ev_var rfl) ea_nil)))) rfl fun x dx H7 e7 h7 => ⟨x, dx, rfl, h7⟩) (by rw [ht.len]; omega) fun v H7 e7 hv => ?_
          · rw [show tl (mkS (longest ((tl z).drop c))) = longest ((tl z).drop c) from rfl, hk] at hkk
            cases hkk
            exact q7
          · rw [show tl (mkS (longest ((tl z).drop c))) = longest ((tl z).drop c) from rfl, hk] at hkk
            cases hkk
          have e47 := (e45.trans e6).trans e7
          have h7 := e47 _ _ h3
          refine s_aug rfl (ev_lenS (ev_var rfl) (by omega)) fun H8 e8 => ?_
          have ex : Ex H (upd H7 p (.lst (vs ++ [v]))) := Ex.mut (e3.trans e47) hp
          refine ⟨vs ++ [v], acc ++ [⟨kd, mkS (longest ((tl z).drop c)), l, c⟩], c + (longest ((tl z).drop c)).length, n, some (.str (mkS (longest ((tl z).drop c)))), ?_, ex.trans e8, e8 _ _ upd_same,
            All.imp (All.app (ht.imp fun v x h => TokAt.put h7 (h.mono e47)) (.cons (TokAt.put h7 hv) .nil)) fun v x h => h.mono e8, by omega, ?_, by omega, ?_, by omega⟩
          · show [some (V.str z), some (V.int l), some (V.ref p), some (V.int ((c : Int) + ((mkS (longest ((tl z).drop c))).length : Int))), some (V.str (mkS (longest ((tl z).drop c))))] = _
            rw [hkz]
            simp
          · rw [List.length_append]
            simp
            omega
          · rw [hr', withFront_app, List.drop_drop]
    · have hge : ¬ (c : Int) < (z.length : Int) := of_decide_eq_false hb
      have hnil : (tl z).drop c = [] := List.drop_eq_nil_of_le (by rw [len_tl]; omega)
      rw [hnil, readRow_nil] at hr'
      refine s_ret (ev_var rfl) fun H5 e5 => ?_
      have e45 := e4.trans e5
      refine k.1 acc (by rw [hr']; simp [withFront]) _ _ (e3.trans e45) ⟨p, vs, rfl, e45 _ _ h3, ht.imp fun v x h => h.mono e45⟩


def spTokens (K : PySem.W.Frag) : Sp := fun vs H Q E => ∃ z : Str, vs = [.str z] ∧ z.length + 10 ≤ big ∧ Lexes K H Q E (lexAll z)

theorem ok_read_tokens (T : Txt K mg) : FnR P w K mg base (L2.CX P w) 5 (He.ga K "read_tokens") (spTokens K) := by
  obtain ⟨fd_SyntaxFault, GI_SyntaxFault, BI_SyntaxFault⟩ := ok_SyntaxFault_init (P := P) (w := w) (base := base) T
  have G_Token_init := ok_Token_init (P := P) (w := w) (base := base) T
  have G_read_row := ok_read_row (P := P) (w := w) (base := base) T
  have KP_read_row : PySem.W.keepIn K (.ref (He.ga K "read_row")) = true := by
    obtain ⟨_, F⟩ := T.F_read_row
    exact F.kp
  obtain ⟨fd, F⟩ := T.F_read_tokens
  have B : Binds K fd P_read_tokens [] := F.bindsN fun _ _ _ _ _ _ us hl => match us, hl with | [_], _ => rfl
  refine fnR_of F B (F.ok sc_read_tokens (fun vs H Q E h => ?_) (fun cdv A outer s H vs Q E hr h => ?_))
  · obtain ⟨z, rfl, _⟩ := h
    rfl
  · have hu := hu_of hr
    obtain ⟨z, rfl, hz, k⟩ := h
    refine ⟨_, (pss_cons (ps_if (pt_not (pt_val (pe_callB call_isi (by rfl) T.b_isinstance (by decide +kernel) (pa_cons (pv 0) (pa_cons (pe_bltn (v := V.ty "str") (by rfl) T.b_str (by decide +kernel) rfl) pa_nil))))) (pss_one (ps_raise rfl (takes_of rfl rfl rfl rfl) (pmk_oex T.x_SyntaxFault T.i_SyntaxFault T.ti_SyntaxFault GI_SyntaxFault (hr.mono (by decide)) BI_SyntaxFault .nil passL rfl T.g_SyntaxFault (pa_cons pe_int (pa_cons pe_int pa_nil))))) pss_nil)
        (pss_cons (ps_set (i := 1) sc_read_tokens.nd rfl (Or.inl rfl) (pe_lst pa_nil))
        (pss_cons (ps_set (i := 2) sc_read_tokens.nd rfl (Or.inl rfl) (pe_split (pv 0) pe_str))
        (pss_cons (ps_for (passes_of rfl) rfl (pi_enum (by rfl) T.b_enumerate (pa_cons (pv 2) pa_nil)) (pg_tup rfl (pgs_cons (pg_name (i := 3) sc_read_tokens.nd rfl (Or.inl rfl)) (pgs_cons (pg_name (i := 4) sc_read_tokens.nd rfl (Or.inl rfl)) pgs_nil))) (pss_one (ps_expr (pe_bm PySem.F.plainAttrs_list PySem.F.slot_list_extend PySem.F.type_list_extend mt_extend (pv 1) (pa_cons (pe_callR G_read_row (hr.mono (by decide)) T.g_read_row KP_read_row px (pa_cons (pv 4) (pa_cons (pv 3) pa_nil))) pa_nil)))))
        (pss_cons (ps_expr (pe_bm PySem.F.plainAttrs_list PySem.F.slot_list_append PySem.F.type_list_append mt_append (pv 1) (pa_cons (StX.pe_makeR T.k_Token G_Token_init (hr.mono (by decide)) (by rfl) T.g_Token px (pa_cons (pe_gs T.v_END) (pa_cons pe_str (pa_cons (pe_callB call_len_seq (by rfl) T.b_len (by decide +kernel) (pa_cons (pv 2) pa_nil)) (pa_cons pe_int pa_nil))))) pa_nil)))
        (pss_one (ps_ret (pv 1)))))))), ?_⟩
    have bl : big + 100 < sizeLine := by decide
    have bb : big = 1000000 := rfl
    have rl := rows_len z
    refine q_when (et_not (et_B (ev_isStr (ev_var rfl)))) (fun hb => absurd hb (by decide)) (fun _ H1 e1 => ?_)
    refine q_asgL (el_lst ea_nil (by decide)) fun p H2 hp e2 h2 => ?_
    refine q_asgL (el_split (ev_var rfl) ev_c (by decide +kernel) (by omega)) fun r H3 hr3 e3 h3 => ?_
    have npr : p ≠ r := ne_of_none h2 hr3
    have hp0 : H p = none := fresh_back e1 hp
    refine q_forEnum (xs := (Txt.split z "\n").map V.str) (ea_cons (ev_var rfl) ea_nil) (sq_of h3) rfl (fun i σ' H' => ∃ (vs : List V) (acc : List Tk) (x y : Option V), σ' = [some (.str z), some (.ref p), some (.ref r), x, y] ∧ Ex H H' ∧ H' p = some (.lst vs) ∧
        H' r = some (.lst ((Txt.split z "\n").map V.str)) ∧ All (TokAt K H') vs acc ∧ acc.length ≤ (((Txt.split z "\n").map Str.length).take i).sum ∧ readRows (Txt.split z "\n") 0 = withFront acc (readRows ((Txt.split z "\n").drop i) i))
      (fun H4 e4 => ⟨[], [], none, none, rfl, ((e1.trans e2).trans e3).trans e4, (e3.trans e4) _ _ h2, e4 _ _ h3, .nil, Nat.zero_le _, by rw [withFront_nil, List.drop_zero]⟩)
      (fun i σ' H' _ ⟨_, _, _, _, _, _, _, h, _⟩ => sq_of h) ?_ ?_
    · rintro i v σ' H' H4 hv ⟨vs, acc, x, y, rfl, e4, h5, h6, ht, hal, hrr⟩ e5
      obtain ⟨row, hrow, rfl⟩ : ∃ row, (Txt.split z "\n")[i]? = some row ∧ v = .str row := by
        rw [List.getElem?_map] at hv
        cases q : (Txt.split z "\n")[i]? with
        | none => rw [q] at hv; cases hv
        | some row => rw [q] at hv; exact ⟨row, rfl, (Option.some.inj hv).symm⟩
      have hi := (List.getElem?_eq_some_iff.mp hrow).1
      have hst := sum_take_le ((Txt.split z "\n").map Str.length) i row.length (by rw [List.getElem?_map, hrow]; rfl)
      have hsa := sum_take_all ((Txt.split z "\n").map Str.length) (i + 1)
      have hd : (Txt.split z "\n").drop i = row :: (Txt.split z "\n").drop (i + 1) := by
        rw [List.drop_eq_getElem_cons hi]
        rw [List.getElem?_eq_getElem hi] at hrow
        rw [Option.some.inj hrow]
      cases hR : readRow row.length (tl row) i 0 with
      | error e =>
        obtain ⟨el, ec⟩ := e
        rw [hd, readRows_cons_bad hR] at hrr
        have kE := k.2 el ec (by unfold lexAll; rw [hrr]; rfl)
        refine ⟨_, rfl, Or.inl ⟨rfl, _, sq_of (e5 _ _ h5)⟩, ?_⟩
        refine ⟨_, rfl, _, rfl, ?_⟩
        exact ⟨row, i, rfl, by omega, by omega, (fun ts hts => by rw [hR] at hts; cases hts), fun l c hlc => by
          rw [hR] at hlc
          cases hlc
          exact kE.mono (e4.trans e5)⟩
      | ok ts =>
        rw [hd, readRows_cons_ok hR] at hrr
        have hln := readRow_len _ _ _ _ _ hR
        rw [len_tl] at hln
        refine s_extP (P := fun v H2 => ToksAt K H2 v ts) (e5 _ _ h5) (ev_var rfl) (ep_callR (ea_cons (ev_var rfl) (ea_cons (ev_var rfl) ea_nil)) fun H6 e6 Q6 q6 => ⟨row, i, rfl, by omega, by omega, (fun t2 ht2 v H7 e7 h7 => ?_), fun l c hlc => ?_⟩) fun v H7 e7 hv => ?_
        · rw [hR] at ht2
          cases ht2
          exact q6 v H7 e7 h7
        · rw [hR] at hlc
          cases hlc
        · obtain ⟨b, ys, rfl, hb, hA⟩ := hv
          have e57 := e5.trans e7
          have hp7 := e57 _ _ h5
          have hlen := hA.len
          have hlen2 := ht.len
          refine ⟨b, ys, rfl, hb, by omega, vs ++ ys, acc ++ ts, _, _, rfl, Ex.mut (e4.trans e57) hp0, upd_same, ?_, All.app (ht.imp fun v x h => TokAt.put hp7 (h.mono e57)) (hA.imp fun v x h => TokAt.put hp7 h), ?_, ?_⟩
          · rw [upd_ne (Ne.symm npr)]
            exact e57 _ _ h6
          · rw [List.length_append]
            omega
          · rw [hrr, withFront_app]
    · rintro σ' H' ⟨vs, acc, x, y, rfl, e4, h5, h6, ht, hal, hrr⟩
      rw [List.length_map, List.drop_length] at hrr
      have hsa := sum_take_all ((Txt.split z "\n").map Str.length) ((Txt.split z "\n").map V.str).length
      have hlen := ht.len
      refine q_appP (P := fun v H2 => TokAt K H2 v (endTk (Txt.split z "\n").length)) h5 (ev_var rfl) (ep_make (ea_cons ev_c (ea_cons ev_c (ea_cons (ev_len (ev_var rfl) (sq_of h6)) (ea_cons ev_c ea_nil)))) rfl fun x dx H7 e7 h7 => ⟨x, dx, rfl, ?_⟩) (by omega) fun v H7 e7 hv => ?_
      · rw [h7]
        unfold tkF endTk
        simp
      · have h7 := e7 _ _ h5
        refine s_ret (ev_var rfl) fun H8 e8 => ?_
        refine k.1 (acc ++ [endTk (Txt.split z "\n").length]) ?_ _ _ ((Ex.mut (e4.trans e7) hp0).trans e8) ⟨p, vs ++ [v], rfl, e8 _ _ upd_same, (All.app (ht.imp fun v x h => TokAt.put h7 (h.mono e7)) (.cons (TokAt.put h7 hv) .nil)).imp fun v x h => h.mono e8⟩
        unfold lexAll
        rw [hrr]
        simp [withFront, readRows]

end SB

set_option maxHeartbeats 4000000
namespace SB
open PySem PySem.Spec PyProof.Rows L2
open TL (tl)
open Evl
variable {P : Program} {w : World} {K : PySem.W.Frag} {mg : Str → Option Value} {base : Heap}


/-! ### the parser's object -/
def parF (l : Addr) (i : Nat) : List (Str × V) := [("tokens", .ref l), ("at", .int i)]
/-- all but q stays -/
def ExN (q : Addr) (H H' : Hp) : Prop := ∀ a o, a ≠ q → H a = some o → H' a = some o
theorem ExN.refl (q : Addr) (H : Hp) : ExN q H H := fun _ _ _ h => h
theorem ExN.trans {q : Addr} {H H1 H2 : Hp} (a : ExN q H H1) (b : ExN q H1 H2) : ExN q H H2 := fun x o n h => b x o n (a x o n h)
theorem ExN.of {q : Addr} {H H' : Hp} (e : Ex H H') : ExN q H H' := fun a o _ h => e a o h
/-- what is no list and no parser stays -/
def ES (K : PySem.W.Frag) (H H' : Hp) : Prop := ∀ a o, H a = some o → (∀ xs, o ≠ .lst xs) → (∀ dx l i, o ≠ .ins (He.ga K "Parser") dx (parF l i)) → H' a = some o
theorem ES.refl (K : PySem.W.Frag) (H : Hp) : ES K H H := fun _ _ h _ _ => h
theorem ES.trans {K : PySem.W.Frag} {H H1 H2 : Hp} (a : ES K H H1) (b : ES K H1 H2) : ES K H H2 := fun x o h n m => b x o (a x o h n m) n m
theorem ES.of {K : PySem.W.Frag} {H H' : Hp} (e : Ex H H') : ES K H H' := fun a o h _ _ => e a o h
theorem ES.ofN {K : PySem.W.Frag} {q dx l : Addr} {i : Nat} {H H' : Hp} (e : ExN q H H') (hq : H q = some (.ins (He.ga K "Parser") dx (parF l i))) : ES K H H' := fun a o h _ m => by
  by_cases z : a = q
  · subst z
    rw [hq] at h
    exact absurd (Option.some.inj h).symm (m _ _ _)
  · exact e a o z h
theorem ES.put {K : PySem.W.Frag} {H : Hp} {p : Addr} {xs ys : List V} (hp : H p = some (.lst xs)) : ES K H (upd H p (.lst ys)) := fun a o h n _ => by
  by_cases z : a = p
  · subst z
    rw [hp] at h
    exact absurd (Option.some.inj h).symm (n _)
  · rw [upd_ne z]
    exact h
theorem TokAt.es {K : PySem.W.Frag} {H H' : Hp} {v : V} {t : Tk} (e : ES K H H') (h : TokAt K H v t) : TokAt K H' v t := by
  obtain ⟨a, dx, e1, e2⟩ := h
  refine ⟨a, dx, e1, e a _ e2 (fun _ z => by cases z) fun dy l i z => ?_⟩
  have := congrArg (fun o => match o with | HO.ins _ _ fs => fs.length | _ => 0) z
  exact absurd (show (4 : Nat) = 2 from this) (by decide)
def OptAt (K : PySem.W.Frag) (H : Hp) (v : V) : Option Tk → Prop
  | none => v = .non
  | some t => TokAt K H v t
theorem OptAt.es {K : PySem.W.Frag} {H H' : Hp} {v : V} {o : Option Tk} (e : ES K H H') (h : OptAt K H v o) : OptAt K H' v o := by
  cases o with
  | none => exact h
  | some t => exact TokAt.es e h
def StepAt (K : PySem.W.Frag) (H : Hp) (v : V) (s : StepM) : Prop := ∃ a dx lv cv tv, v = .ref a ∧ H a = some (.ins (He.ga K "StepTokens") dx [("label", lv), ("command", cv), ("target", tv)]) ∧ OptAt K H lv s.label ∧ TokAt K H cv s.command ∧ OptAt K H tv s.target
theorem StepAt.es {K : PySem.W.Frag} {H H' : Hp} {v : V} {s : StepM} (e : ES K H H') (h : StepAt K H v s) : StepAt K H' v s := by
  obtain ⟨a, dx, lv, cv, tv, e1, e2, h1, h2, h3⟩ := h
  refine ⟨a, dx, lv, cv, tv, e1, e a _ e2 (fun _ z => by cases z) (fun dy l i z => ?_), h1.es e, h2.es e, h3.es e⟩
  have := congrArg (fun o => match o with | HO.ins _ _ fs => fs.length | _ => 0) z
  exact absurd (show (3 : Nat) = 2 from this) (by decide)
def RobAt (K : PySem.W.Frag) (H : Hp) (v : V) (r : RobM) : Prop := ∃ a dx sv p vs, v = .ref a ∧ H a = some (.ins (He.ga K "RobotTokens") dx [("start", sv), ("steps", .ref p)]) ∧ TokAt K H sv r.start ∧ H p = some (.lst vs) ∧ All (StepAt K H) vs r.steps
theorem RobAt.exn {K : PySem.W.Frag} {q dx l : Addr} {i : Nat} {H H' : Hp} {v : V} {r : RobM} (e : ExN q H H') (hq : H q = some (.ins (He.ga K "Parser") dx (parF l i))) (h : RobAt K H v r) : RobAt K H' v r := by
  obtain ⟨a, dy, sv, p, vs, e1, e2, h1, h2, h3⟩ := h
  have s := ES.ofN e hq
  refine ⟨a, dy, sv, p, vs, e1, ?_, h1.es s, e p _ ?_ h2, h3.imp fun v x h => h.es s⟩
  · refine s a _ e2 (fun _ z => by cases z) fun dy l i z => ?_
    have := congrArg (fun o => match o with | HO.ins _ _ fs => fs.head?.map Prod.fst | _ => (none : Option Str)) z
    exact absurd (show some ("start" : Str) = some ("tokens" : Str) from this) (by decide +kernel)
  · exact ne_of h2 hq (by intro z; cases z)
theorem RobAt.ex {K : PySem.W.Frag} {H H' : Hp} {v : V} {r : RobM} (e : Ex H H') (h : RobAt K H v r) : RobAt K H' v r := by
  obtain ⟨a, dy, sv, p, vs, e1, e2, h1, h2, h3⟩ := h
  exact ⟨a, dy, sv, p, vs, e1, e _ _ e2, h1.mono e, e _ _ h2, h3.imp fun v x h => h.es (ES.of e)⟩
def PlanAt (K : PySem.W.Frag) (H : Hp) (v : V) (p : PlanM) : Prop := ∃ a dx kv n ns r rs, v = .ref a ∧ H a = some (.ins (He.ga K "PlanTokens") dx [("keyword", kv), ("numbers", .ref n), ("robots", .ref r)]) ∧ TokAt K H kv p.keyword ∧
  H n = some (.lst ns) ∧ All (TokAt K H) ns p.numbers ∧ H r = some (.lst rs) ∧ All (RobAt K H) rs p.robots
structure Par (K : PySem.W.Frag) (H : Hp) (q dx l : Addr) (us : List V) (ts : List Tk) (i : Nat) : Prop where
  ob : H q = some (.ins (He.ga K "Parser") dx (parF l i))
  ls : H l = some (.lst us)
  al : All (TokAt K H) us ts
  sm : ∀ t ∈ ts, t.line ≤ big ∧ t.col ≤ big
  sz : ts.length ≤ big
  en : Ends ts
theorem Par.ex {K : PySem.W.Frag} {H H' : Hp} {q dx l : Addr} {us : List V} {ts : List Tk} {i : Nat} (h : Par K H q dx l us ts i) (e : Ex H H') : Par K H' q dx l us ts i :=
  ⟨e _ _ h.ob, e _ _ h.ls, h.al.imp fun v x r => r.mono e, h.sm, h.sz, h.en⟩
theorem Par.put {K : PySem.W.Frag} {H : Hp} {q dx l p : Addr} {us : List V} {ts : List Tk} {i : Nat} {xs ys : List V} (h : Par K H q dx l us ts i) (hp : H p = some (.lst xs)) (n : p ≠ l) : Par K (upd H p (.lst ys)) q dx l us ts i := by
  refine ⟨?_, ?_, h.al.imp fun v x r => r.es (ES.put hp), h.sm, h.sz, h.en⟩
  · rw [upd_ne (ne_of h.ob hp (by intro z; cases z))]
    exact h.ob
  · rw [upd_ne (Ne.symm n)]
    exact h.ls
def FailsN (K : PySem.W.Frag) (q : Addr) (H : Hp) (E : XK) (e : Err) : Prop := ∀ (d : Addr) (H' : Hp), ExN q H H' → H d = none → H' d = some (.xd (sfF (e.1 : Nat) (e.2 : Nat))) → E (.ref (He.ga K "SyntaxFault")) (some d) H'
theorem FailsN.mono {K : PySem.W.Frag} {q : Addr} {H H1 : Hp} {E : XK} {e : Err} {o : HO} (h : FailsN K q H E e) (x : ExN q H H1) (hq : H1 q = some o) : FailsN K q H1 E e := fun d H' x2 n z => h d H' (x.trans x2) (by
  cases w : H d with
  | none => rfl
  | some u =>
    by_cases c : d = q
    · rw [c, hq] at n
      cases n
    · rw [x d u c w] at n
      cases n) z
theorem FailsN.out {K : PySem.W.Frag} {q : Addr} {H : Hp} {E : XK} {e : Err} (h : FailsN K q H E e) : Fails H E (He.ga K "SyntaxFault") (sfF (e.1 : Nat) (e.2 : Nat)) := fun d H' s n x => h d H' (ExN.of s) n x
/-- how a method of the parser ends -/
def Took {α : Type} (K : PySem.W.Frag) (q dx l : Addr) (us : List V) (ts : List Tk) (H : Hp) (Q : VK) (E : XK) (R : Hp → V → α → Prop) (r : PR α) : Prop :=
  (∀ a j, r = .ok (a, j) → ∀ v H', ExN q H H' → Par K H' q dx l us ts j → R H' v a → Q v H') ∧ (∀ e, r = .error e → FailsN K q H E e)
def spM {α : Type} (K : PySem.W.Frag) (R : Hp → V → α → Prop) (m : List Tk → Nat → PR α) : Sp := fun vs H Q E => ∃ q dx l us ts i, vs = [.ref q] ∧ Par K H q dx l us ts i ∧ i < ts.length ∧ Took K q dx l us ts H Q E R (m ts i)
def spKd (K : PySem.W.Frag) : Sp := fun vs H Q _ => ∃ q dx l us ts i, vs = [.ref q] ∧ Par K H q dx l us ts i ∧ i < ts.length ∧ RetV (.str (kindAt ts i)) H Q
def spTakeB (K : PySem.W.Frag) : Sp := fun vs H Q E => ∃ q dx l us ts i p ks, vs = [.ref q, .ref p] ∧ H p = some (.tup (ks.map V.str)) ∧ Par K H q dx l us ts i ∧ i < ts.length ∧ Took K q dx l us ts H Q E (TokAt K) (takeK ks ts i)
def spTake (K : PySem.W.Frag) : Sp := fun vs H Q E => ∃ q dx l us ts i ks, vs = .ref q :: ks.map V.str ∧ ks.length ≤ 100 ∧ Par K H q dx l us ts i ∧ i < ts.length ∧ Took K q dx l us ts H Q E (TokAt K) (takeK ks ts i)
theorem Par.tok {K : PySem.W.Frag} {H : Hp} {q dx l : Addr} {us : List V} {ts : List Tk} {i : Nat} (h : Par K H q dx l us ts i) (hi : i < ts.length) : ∃ v a da, us[i]? = some v ∧ v = .ref a ∧ H a = some (.ins (He.ga K "Token") da (tkF ts[i])) := by
  obtain ⟨v, h1, a, da, e, h2⟩ := h.al.get (List.getElem?_eq_getElem hi)
  exact ⟨v, a, da, h1, e, h2⟩
theorem kindAt_eq {ts : List Tk} {i : Nat} (hi : i < ts.length) : kindAt ts i = ts[i].kind := by
  unfold kindAt
  rw [List.getElem?_eq_getElem hi]
theorem atI_get {xs : List V} {i : Nat} {v : V} (h : xs[i]? = some v) : atI xs (i : Int) = some v := by
  unfold atI
  rw [Evl.ixN_nat (List.getElem?_eq_some_iff.mp h).1]
  exact h

theorem ok_Parser_next_kind (T : Txt K mg) : FnR P w K mg base (L2.CX P w) 1 (He.ma K (He.ga K "Parser") "next_kind") (spKd K) := by
  obtain ⟨fd, F⟩ := T.F_Parser_next_kind
  have B : Binds K fd P_Parser_next_kind [] := F.bindsN fun _ _ _ _ _ _ us hl => match us, hl with | [_], _ => rfl
  refine fnR_of F B (F.ok sc_Parser_next_kind (fun vs H Q E h => ?_) (fun cdv A outer s H vs Q E hr h => ?_))
  · obtain ⟨q, dx, l, us, ts, i, rfl, _⟩ := h
    rfl
  · have hu := hu_of hr
    obtain ⟨q, dx, l, us, ts, i, rfl, hp, hi, k⟩ := h
    refine ⟨_, (pss_one (ps_ret (pe_fld (pe_ix ix_list (pe_fld (pv 0) rfl) (pe_fld (pv 0) rfl) (fun _ _ => rfl)) rfl))), ?_⟩
    obtain ⟨v, a, da, h1, rfl, h2⟩ := hp.tok hi
    refine s_ret (ev_fld (ev_op (ev_fld (ev_var rfl) hp.ob T.c_Parser T.n_Parser_tokens rfl) (ev_fld (ev_var rfl) hp.ob T.c_Parser T.n_Parser_at rfl) (rv_ixL (sq_of hp.ls) (atI_get h1))) h2 T.c_Token T.n_Token_kind rfl) ?_
    rw [kindAt_eq hi] at k
    exact k


theorem ok_Parser_take (T : Txt K mg) : FnR P w K mg base (L2.CX P w) 3 (He.ma K (He.ga K "Parser") "take") (spTake K) := by
  obtain ⟨fd_SyntaxFault, GI_SyntaxFault, BI_SyntaxFault⟩ := ok_SyntaxFault_init (P := P) (w := w) (base := base) T
  obtain ⟨fd, F⟩ := T.F_Parser_take
  obtain ⟨oc, od, dV, kV, doc, pm, an, cdv, ct, osl, rfl, lk, hcd, hD, hK⟩ := F.ex
  obtain rfl : dV = Value.none := by
    rcases hD with ⟨_, e⟩ | ⟨e, _⟩
    · exact e
    · exact absurd rfl e
  refine (StX.fn_star (k := 2) (ps := ["self"]) (pv := "kinds") (sp := spTakeB K) lk hcd sc_Parser_take StX.cxUp (fun us rest hl => match us, rest, hl with | [a], [], _ => rfl | [a], r :: rs, _ => rfl) fun A outer s H vs Q E hr h => ?_).imp fun vs H Q E h => ?_
  · obtain ⟨q, dx, l, us, ts, i, p, ks, rfl, hk, hp, hi, k, kE⟩ := h
    obtain ⟨v, a, da, h1, rfl, h2⟩ := hp.tok hi
    have hti : ts[i]? = some ts[i] := List.getElem?_eq_getElem hi
    have eT : takeK ks ts i = if decide (ts[i].kind ∈ ks) = true then .ok (ts[i], i + 1) else .error (ts[i].line, ts[i].col) := by
      unfold takeK
      rw [hti]
    have sm := hp.sm _ (List.getElem_mem hi)
    refine ⟨_, (pss_cons (ps_set (i := 2) sc_Parser_take.nd rfl (Or.inl rfl) (pe_ix ix_list (pe_fld (pv 0) rfl) (pe_fld (pv 0) rfl) (fun _ _ => rfl)))
          (pss_cons (ps_if (pt_cmpR op_notIn_seq (pe_fld (pv 2) rfl) (pv 1) (by rfl)) (pss_one (ps_raise rfl (takes_of rfl rfl rfl rfl) (pmk_oex T.x_SyntaxFault T.i_SyntaxFault T.ti_SyntaxFault GI_SyntaxFault (hr.mono (by decide)) BI_SyntaxFault .nil passL rfl T.g_SyntaxFault (pa_cons (pe_fld (pv 2) rfl) (pa_cons (pe_fld (pv 2) rfl) pa_nil))))) pss_nil)
          (pss_cons (ps_fldaug (pv 0) pe_int in_add)
          (pss_one (ps_ret (pv 2)))))), ?_⟩
    refine q_asg (ev_op (ev_fld (ev_var rfl) hp.ob T.c_Parser T.n_Parser_tokens rfl) (ev_fld (ev_var rfl) hp.ob T.c_Parser T.n_Parser_at rfl) (rv_ixL (sq_of hp.ls) (atI_get h1))) fun H1 e1 => ?_
    refine q_when (b := !decide (ts[i].kind ∈ ks)) (et_test (ev_is (ev_op (ev_fld (ev_var rfl) (e1 _ _ h2) T.c_Token T.n_Token_kind rfl) (ev_var rfl) (rv_niT (st_of (e1 _ _ hk)) rfl (flat_strs ks))) (congrArg (fun b => V.bl (!b)) (inV_strs _ ks)))) (fun hb H2 e2 => ?_) (fun hb H2 e2 => ?_)
    · have e12 := e1.trans e2
      have f : FailsN K q H E (ts[i].line, ts[i].col) := kE _ (by rw [eT, if_neg]; simpa using hb)
      exact s_raiseO (ea_cons (ev_fld (ev_var rfl) (e12 _ _ h2) T.c_Token T.n_Token_line rfl) (ea_cons (ev_fld (ev_var rfl) (e12 _ _ h2) T.c_Token T.n_Token_column rfl) ea_nil)) ⟨_, _, rfl, rfl, small_of sm.1, small_of sm.2⟩ (by show 2 ≤ 1000; decide) (f.out.mono e12)
    · have e12 := e1.trans e2
      have p2 := hp.ex e12
      refine ⟨_, rfl, q, _, dx, _, _, rfl, p2.ob, T.c_Parser, T.n_Parser_at, rfl, _, _, rfl, rfl, dx, _, p2.ob, (by show 2 < 1000; decide), ?_⟩
      have eP : putF "at" (V.int ((i : Int) + 1)) (parF l i) = parF l (i + 1) := by
        show [(("tokens" : Str), V.ref l), (("at" : Str), V.int ((i : Int) + 1))] = [(("tokens" : Str), V.ref l), (("at" : Str), V.int ((i + 1 : Nat) : Int))]
        simp
      have n1 : ExN q H (upd _ q (.ins (He.ga K "Parser") dx (parF l (i + 1)))) := fun b o n h => by
        rw [upd_ne n]
        exact e12 _ _ h
      have es : ES K H (upd _ q (.ins (He.ga K "Parser") dx (parF l (i + 1)))) := ES.ofN n1 hp.ob
      refine s_ret (ev_var rfl) fun H3 e3 => ?_
      have eH : (HO.ins (He.ga K "Parser") dx (putF "at" (V.int ((i : Int) + 1)) (parF l i))) = .ins (He.ga K "Parser") dx (parF l (i + 1)) := by rw [eP]
      rw [show putF (Str.ofString "at") (V.int ((i : Int) + 1)) (parF l i) = parF l (i + 1) from eP] at e3
      refine k ts[i] (i + 1) (by rw [eT, if_pos]; simpa using hb) _ _ (n1.trans (ExN.of e3)) (Par.ex ⟨upd_same, n1 l _ (ne_of hp.ls hp.ob (by intro z; cases z)) hp.ls, hp.al.imp fun v x r => r.es es, hp.sm, hp.sz, hp.en⟩ e3) ?_
      exact TokAt.mono e3 (TokAt.es es ⟨a, da, rfl, h2⟩)
  · obtain ⟨q, dx, l, us, ts, i, ks, rfl, hl, hp, hi, k, kE⟩ := h
    refine ⟨[.ref q], ks.map V.str, rfl, rfl, by rw [List.length_map]; exact Nat.le_trans hl (by decide), fun p np => ⟨q, dx, l, us, ts, i, p, ks, rfl, upd_same, hp.ex (Ex.new np), hi, fun a j ha v H' x => k a j ha v H' (ExN.trans (ExN.of (Ex.new np)) x), fun e he => FailsN.mono (kE e he) (ExN.of (Ex.new np)) ((Ex.new np) _ _ hp.ob)⟩⟩


section
variable {α β : Type} {q dx l : Addr} {us : List V} {ts : List Tk} {H H1 : Hp} {Q Q1 : VK} {E : XK} {R : Hp → V → α → Prop} {R1 : Hp → V → β → Prop} {i : Nat}
theorem Took.bind {r : PR β} {f : β → Nat → PR α} (k : Took K q dx l us ts H Q E R (andThen r f))
    (g : ∀ a j, r = .ok (a, j) → ∀ v H', ExN q H H' → Par K H' q dx l us ts j → R1 H' v a → Took K q dx l us ts H' Q E R (f a j) → Q1 v H') : Took K q dx l us ts H Q1 E R1 r := by
  refine ⟨fun a j hr v H' x p r1 => g a j hr v H' x p r1 ⟨fun b m hb v2 H2 x2 p2 r2 => k.1 b m (by rw [hr]; exact hb) v2 H2 (x.trans x2) p2 r2, fun e he => FailsN.mono (k.2 e (by rw [hr]; exact he)) x p.ob⟩, fun e he => k.2 e (by rw [he]; rfl)⟩
theorem Took.move {r : PR α} (k : Took K q dx l us ts H Q E R r) (x : ExN q H H1) (p : Par K H1 q dx l us ts i) : Took K q dx l us ts H1 Q E R r :=
  ⟨fun a j h v H' x2 p2 r2 => k.1 a j h v H' (x.trans x2) p2 r2, fun e h => FailsN.mono (k.2 e h) x p.ob⟩
theorem Took.rest {r : PR β} {f : β → Nat → PR α} {a : β} {j : Nat} (k : Took K q dx l us ts H Q E R (andThen r f)) (h : r = .ok (a, j)) : Took K q dx l us ts H Q E R (f a j) := by
  rw [h] at k
  exact k
theorem ExN.put {p : Addr} {xs ys : List V} (x : ExN q H H1) (n : H p = none) : ExN q H (upd H1 p (.lst ys)) := fun a o na h => by
  rw [upd_ne (ne_of_none h n)]
  exact x a o na h
theorem m_take {t : TA} {σ : L2.St} {ks : List Str} (hv : σ[0]? = some (some (.ref q))) (hp : Par K H q dx l us ts i) (hi : i < ts.length) (ha : EvA t σ H (ks.map V.str)) (hk : ks.length ≤ 100)
    (k : Took K q dx l us ts H Q E (TokAt K) (takeK ks ts i)) : tMethR (He.ga K "Parser") "take" (spTake K) E (tVar 0) t σ H Q :=
  ⟨_, hv, q, dx, _, rfl, hp.ob, rfl, ha H (Ex.refl H) _ fun H1 e => ⟨q, dx, l, us, ts, i, ks, rfl, hk, hp.ex e, hi, k.move (ExN.of e) (hp.ex e)⟩⟩
theorem m_takeS {g b : Addr} {σ : L2.St} {ks : List Str} (hv : σ[0]? = some (some (.ref q))) (hp : Par K H q dx l us ts i) (hi : i < ts.length) (hb : ∀ H, SqT K H b (ks.map V.str)) (hk : ks.length ≤ 100)
    (k : Took K q dx l us ts H Q E (TokAt K) (takeK ks ts i)) : tMethS K (He.ga K "Parser") "take" g (spTake K) E (tVar 0) (tC (.ref b)) σ H Q :=
  ⟨_, hv, q, dx, _, rfl, hp.ob, rfl, fun q1 n1 => ⟨b, _, rfl, hb _, upd_same, q, dx, l, us, ts, i, ks, rfl, hk, hp.ex (Ex.new n1), hi, k.move (ExN.of (Ex.new n1)) (hp.ex (Ex.new n1))⟩⟩
theorem m_M {m : Str} {mm : List Tk → Nat → PR α} {σ : L2.St} (hm : ∀ (l : Addr) (i : Nat), (parF l i).lookup m = none) (hv : σ[0]? = some (some (.ref q))) (hp : Par K H q dx l us ts i) (hi : i < ts.length)
    (k : Took K q dx l us ts H Q E R (mm ts i)) : tMethR0 (He.ga K "Parser") m (spM K R mm) E (tVar 0) σ H Q :=
  ⟨_, hv, q, dx, _, rfl, hp.ob, hm _ _, q, dx, l, us, ts, i, rfl, hp, hi, k⟩
theorem ev_kind {σ : L2.St} (hv : σ[0]? = some (some (.ref q))) (hp : Par K H q dx l us ts i) (hi : i < ts.length) : Ev (tMethR0 (He.ga K "Parser") "next_kind" (spKd K) E (tVar 0)) σ H (.str (kindAt ts i)) := fun H1 e Q k =>
  ⟨_, hv, q, dx, _, rfl, (hp.ex e).ob, rfl, q, dx, l, us, ts, i, rfl, hp.ex e, hi, k⟩
end

theorem ok_Parser_take_step (T : Txt K mg) : FnR P w K mg base (L2.CX P w) 4 (He.ma K (He.ga K "Parser") "take_step") (spM K (StepAt K) takeStep) := by
  have G_Parser_take := ok_Parser_take (P := P) (w := w) (base := base) T
  have G_StepTokens_init := ok_StepTokens_init (P := P) (w := w) (base := base) T
  have G_Parser_next_kind := ok_Parser_next_kind (P := P) (w := w) (base := base) T
  obtain ⟨fd, F⟩ := T.F_Parser_take_step
  have B : Binds K fd P_Parser_take_step [] := F.bindsN fun _ _ _ _ _ _ us hl => match us, hl with | [_], _ => rfl
  refine fnR_of F B (F.ok sc_Parser_take_step (fun vs H Q E h => ?_) (fun cdv A outer s H vs Q E hr h => ?_))
  · obtain ⟨q, dx, l, us, ts, i, rfl, _⟩ := h
    rfl
  · have hu := hu_of hr
    obtain ⟨q, dx, l, us, ts, i, rfl, hp, hi, k⟩ := h
    refine ⟨_, (pss_cons (ps_set (i := 1) sc_Parser_take_step.nd rfl (Or.inl rfl) pe_non)
        (pss_cut (ps_if (pt_cmpR op_eq (pe_methR0 (pv 0) T.c_Parser T.m_Parser_next_kind G_Parser_next_kind (hr.mono (by decide)) px) (pe_gs T.v_NAME) (nomark _)) (pss_cons (ps_set (i := 1) sc_Parser_take_step.nd rfl (Or.inl rfl) (pe_methR (pv 0) T.c_Parser T.m_Parser_take G_Parser_take (hr.mono (by decide)) px (pa_cons (pe_gs T.v_NAME) pa_nil)))
        (pss_one (ps_expr (pe_methR (pv 0) T.c_Parser T.m_Parser_take G_Parser_take (hr.mono (by decide)) px (pa_cons pe_str pa_nil))))) pss_nil)
        (pss_cons (ps_set (i := 2) sc_Parser_take_step.nd rfl (Or.inl rfl) (pe_methS (pv 0) T.c_Parser T.bm_Parser_take G_Parser_take (hr.mono (by decide)) px (pe_gr T.g_COMMANDS)))
        (pss_cons (ps_set (i := 3) sc_Parser_take_step.nd rfl (Or.inl rfl) pe_non)
        (pss_cut (ps_if (pt_cmpR op_in_seq (pe_fld (pv 2) rfl) (pe_gr T.g_JUMPS) (by rfl)) (pss_one (ps_set (i := 3) sc_Parser_take_step.nd rfl (Or.inl rfl) (pe_methR (pv 0) T.c_Parser T.m_Parser_take G_Parser_take (hr.mono (by decide)) px (pa_cons (pe_gs T.v_NAME) pa_nil)))) pss_nil)
        (pss_cons (ps_expr (pe_methR (pv 0) T.c_Parser T.m_Parser_take G_Parser_take (hr.mono (by decide)) px (pa_cons pe_str pa_nil)))
        (pss_one (ps_ret (StX.pe_makeR T.k_StepTokens G_StepTokens_init (hr.mono (by decide)) (by rfl) T.g_StepTokens px (pa_cons (pv 1) (pa_cons (pv 2) (pa_cons (pv 3) pa_nil)))))))))))), ?_⟩
    refine q_asg ev_c fun H1 e1 => ?_
    have p1 := hp.ex e1
    have k1 := k.move (ExN.of e1) p1
    let Mid : L2.St → Hp → Prop := fun σ' H' => ∃ lab lv j, σ' = [some (.ref q), some lv, none, none] ∧ Par K H' q dx l us ts j ∧ j < ts.length ∧ OptAt K H' lv lab ∧
      Took K q dx l us ts H' Q E (StepAt K) (andThen (takeK commands ts j) fun c m => andThen (takeTarget c ts m) fun tg n => andThen (takeK [";"] ts n) fun _ o => .ok (⟨lab, c, tg⟩, o))
    have kL : Took K q dx l us ts H1 (fun lv H' => Mid [some (.ref q), some lv, none, none] H') E (OptAt K) (takeLabel ts i) := k1.bind fun lab j hl v H' x p r k' => ⟨lab, v, j, rfl, p, (takeLabel_lt hp.en hi hl).2, r, k'⟩
    refine ⟨Mid, ?_, ?_⟩
    · refine s_when (b := decide (kindAt ts i = "name")) (et_test (ev_is (ev_op (ev_kind rfl p1 hi) ev_c (rv_eq rfl)) (congrArg V.bl (str_eq _ _)))) (fun hb H2 e2 => ?_) (fun hb H2 e2 => ?_)
      · have hn : kindAt ts i = "name" := of_decide_eq_true hb
        have p2 := p1.ex e2
        have k2 := kL.move (ExN.of e2) p2
        unfold takeLabel at k2
        rw [if_pos hn] at k2
        refine q_setH (m_take (ks := ["name"]) rfl p2 hi (ea_cons ev_c ea_nil) (by decide) (k2.bind fun t j ht v H3 x3 p3 r3 k3 => ?_))
        refine s_dropH (m_take (ks := [":"]) rfl p3 (takeK_lt hp.en (by decide +kernel) ht) (ea_cons ev_c ea_nil) (by decide) (k3.bind fun t2 j2 ht2 v2 H4 x4 p4 r4 k4 => ?_))
        exact k4.1 (some t) j2 rfl v H4 (ExN.refl _ _) p4 (TokAt.es (ES.ofN x4 p3.ob) r3)
      · have hn : ¬ kindAt ts i = "name" := of_decide_eq_false hb
        have p2 := p1.ex e2
        have k2 := kL.move (ExN.of e2) p2
        unfold takeLabel at k2
        rw [if_neg hn] at k2
        exact k2.1 none i rfl .non H2 (ExN.refl _ _) p2 rfl
    rintro σ' H2 ⟨lab, lv, j, rfl, p2, hj, hlab, k2⟩
    refine q_setH (m_takeS (ks := commands) rfl p2 hj T.t_COMMANDS (by decide) (k2.bind fun c m hc cv H3 x3 p3 rc k3 => ?_))
    have hlab3 := hlab.es (ES.ofN x3 p2.ob)
    have hm := takeK_lt hp.en (by decide +kernel) hc
    refine q_asg ev_c fun H4 e4 => ?_
    have p4 := p3.ex e4
    let Mid2 : L2.St → Hp → Prop := fun σ' H' => ∃ tg tv n, σ' = [some (.ref q), some lv, some cv, some tv] ∧ Par K H' q dx l us ts n ∧ n < ts.length ∧ OptAt K H' tv tg ∧ ExN q H4 H' ∧
      Took K q dx l us ts H' Q E (StepAt K) (andThen (takeK [";"] ts n) fun _ o => .ok (⟨lab, c, tg⟩, o))
    have kT : Took K q dx l us ts H4 (fun tv H' => Mid2 [some (.ref q), some lv, some cv, some tv] H') E (OptAt K) (takeTarget c ts m) := (k3.move (ExN.of e4) p4).bind fun tg n hl v H' x p r k' => ⟨tg, v, n, rfl, p, (takeTarget_lt hp.en hm hl).2, r, x, k'⟩
    have rc4 := TokAt.mono e4 rc
    refine ⟨Mid2, ?_, ?_⟩
    · obtain ⟨ca, cdx, rfl, hca⟩ := rc4
      refine s_when (b := decide (c.kind ∈ jumps)) (et_test (ev_is (ev_op (ev_fld (ev_var rfl) hca T.c_Token T.n_Token_kind rfl) ev_c (rv_isT (T.t_JUMPS _) rfl (flat_strs jumps))) (congrArg V.bl (inV_strs _ jumps)))) (fun hb H5 e5 => ?_) (fun hb H5 e5 => ?_)
      · have p5 := p4.ex e5
        have k5 := kT.move (ExN.of e5) p5
        unfold takeTarget at k5
        rw [if_pos hb] at k5
        refine s_setH (m_take (ks := ["name"]) rfl p5 hm (ea_cons ev_c ea_nil) (by decide) (k5.bind fun t j ht v H6 x6 p6 r6 k6 => ?_))
        exact k6.1 (some t) j rfl v H6 (ExN.refl _ _) p6 r6
      · have p5 := p4.ex e5
        have k5 := kT.move (ExN.of e5) p5
        unfold takeTarget at k5
        rw [if_neg (by simpa using hb)] at k5
        exact k5.1 none m rfl .non H5 (ExN.refl _ _) p5 rfl
    rintro σ' H5 ⟨tg, tv, n, rfl, p5, hn, htg, x5, k5⟩
    have s45 := ES.ofN x5 p4.ob
    refine q_dropH (m_take (ks := [";"]) rfl p5 hn (ea_cons ev_c ea_nil) (by decide) (k5.bind fun t o ht v H6 x6 p6 r6 k6 => ?_))
    have s56 := ES.ofN x6 p5.ob
    have hlab6 := ((hlab3.es (ES.of e4)).es s45).es s56
    have rc6 := (TokAt.es s45 rc4).es s56
    have htg6 := htg.es s56
    refine s_retP (P := fun v H' => StepAt K H' v ⟨lab, c, tg⟩) (ep_make (ea_cons (ev_var rfl) (ea_cons (ev_var rfl) (ea_cons (ev_var rfl) ea_nil))) rfl fun x da H7 e7 h7 => ⟨x, da, lv, cv, tv, rfl, h7, hlab6.es (ES.of e7), rc6.mono e7, htg6.es (ES.of e7)⟩) fun v H8 e8 hv => ?_
    exact k6.1 _ _ rfl v H8 (ExN.of e8) (p6.ex e8) hv

theorem ok_Parser_take_robot (T : Txt K mg) : FnR P w K mg base (L2.CX P w) 5 (He.ma K (He.ga K "Parser") "take_robot") (spM K (RobAt K) takeRobot) := by
  have G_Parser_take := ok_Parser_take (P := P) (w := w) (base := base) T
  have G_RobotTokens_init := ok_RobotTokens_init (P := P) (w := w) (base := base) T
  have G_Parser_take_step := ok_Parser_take_step (P := P) (w := w) (base := base) T
  have G_Parser_next_kind := ok_Parser_next_kind (P := P) (w := w) (base := base) T
  obtain ⟨fd, F⟩ := T.F_Parser_take_robot
  have B : Binds K fd P_Parser_take_robot [] := F.bindsN fun _ _ _ _ _ _ us hl => match us, hl with | [_], _ => rfl
  refine fnR_of F B (F.ok sc_Parser_take_robot (fun vs H Q E h => ?_) (fun cdv A outer s H vs Q E hr h => ?_))
  · obtain ⟨q, dx, l, us, ts, i, rfl, _⟩ := h
    rfl
  · have hu := hu_of hr
    obtain ⟨q, dx, l, us, ts, i, rfl, hp, hi, k⟩ := h
    refine ⟨_, (pss_cons (ps_expr (pe_methR (pv 0) T.c_Parser T.m_Parser_take G_Parser_take (hr.mono (by decide)) px (pa_cons pe_str pa_nil)))
        (pss_cons (ps_set (i := 1) sc_Parser_take_robot.nd rfl (Or.inl rfl) (pe_methR (pv 0) T.c_Parser T.m_Parser_take G_Parser_take (hr.mono (by decide)) px (pa_cons (pe_gs T.v_NUMBER) pa_nil)))
        (pss_cons (ps_expr (pe_methR (pv 0) T.c_Parser T.m_Parser_take G_Parser_take (hr.mono (by decide)) px (pa_cons pe_str pa_nil)))
        (pss_cons (ps_set (i := 2) sc_Parser_take_robot.nd rfl (Or.inl rfl) (pe_lst (pa_cons (pe_methR0 (pv 0) T.c_Parser T.m_Parser_take_step G_Parser_take_step (hr.mono (by decide)) px) pa_nil)))
        (pss_cons (ps_while (passes_of rfl) (pt_cmpR op_ne (pe_methR0 (pv 0) T.c_Parser T.m_Parser_next_kind G_Parser_next_kind (hr.mono (by decide)) px) pe_str (nomark _)) (pss_one (ps_expr (pe_bm PySem.F.plainAttrs_list PySem.F.slot_list_append PySem.F.type_list_append mt_append (pv 2) (pa_cons (pe_methR0 (pv 0) T.c_Parser T.m_Parser_take_step G_Parser_take_step (hr.mono (by decide)) px) pa_nil)))))
        (pss_cons (ps_expr (pe_methR (pv 0) T.c_Parser T.m_Parser_take G_Parser_take (hr.mono (by decide)) px (pa_cons pe_str pa_nil)))
        (pss_one (ps_ret (StX.pe_makeR T.k_RobotTokens G_RobotTokens_init (hr.mono (by decide)) (by rfl) T.g_RobotTokens px (pa_cons (pv 1) (pa_cons (pv 2) pa_nil))))))))))), ?_⟩
    have bb : big + 10 < sizeLine := by decide
    refine q_dropH (m_take (ks := ["robot"]) rfl hp hi (ea_cons ev_c ea_nil) (by decide) (k.bind fun t1 j1 ht1 v1 H1 x1 p1 r1 k1 => ?_))
    have l1 := takeK_lt hp.en (by decide +kernel) ht1
    refine q_setH (m_take (ks := ["number"]) rfl p1 l1 (ea_cons ev_c ea_nil) (by decide) (k1.bind fun st j2 ht2 sv H2 x2 p2 r2 k2 => ?_))
    have l2 := takeK_lt hp.en (by decide +kernel) ht2
    refine q_dropH (m_take (ks := ["{"]) rfl p2 l2 (ea_cons ev_c ea_nil) (by decide) (k2.bind fun t3 j3 ht3 v3 H3 x3 p3 r3 k3 => ?_))
    have l3 := takeK_lt hp.en (by decide +kernel) ht3
    have hst3 := TokAt.es (ES.ofN x3 p2.ob) r2
    refine q_lst1H (m_M (fun _ _ => rfl) rfl p3 l3 (k3.bind fun s j4 hs v4 H4 x4 p4 r4 k4 => ?_))
    have l4 := (takeStep_lt hp.en l3 hs).2
    intro p np
    have e5 : Ex H4 (upd H4 p (.lst [v4])) := Ex.new np
    have npl : p ≠ l := fun z => by
      rw [z, p4.ls] at np
      cases np
    have p5 := p4.ex e5
    refine q_while (fun m σ' H' => ∃ (acc : List StepM) (vs : List V) (j n : Nat), σ' = [some (.ref q), some sv, some (.ref p)] ∧ H' p = some (.lst vs) ∧ All (StepAt K H') vs acc ∧ TokAt K H' sv st ∧ Par K H' q dx l us ts j ∧ j < ts.length ∧ acc.length ≤ j ∧ ts.length - j < n ∧ m = ts.length - j ∧ ExN q H4 H' ∧
        Took K q dx l us ts H4 Q E (RobAt K) (andThen (takeSteps n ts j) fun ss o => andThen (takeK ["}"] ts o) fun _ r => .ok (⟨st, acc ++ ss⟩, r))) (ts.length - j4)
      ⟨[s], [v4], j4, ts.length + 1, rfl, upd_same, .cons (r4.es (ES.of e5)) .nil, TokAt.mono e5 (TokAt.es (ES.ofN x4 p3.ob) hst3), p5, l4, by have := (takeStep_lt hp.en l3 hs).1; show 1 ≤ j4; omega, by omega, rfl, ExN.of e5, k4⟩ ?_
    rintro m σ' H5 ⟨acc, vs, j, n, rfl, h5, ha5, hst5, p5, hj, hal, hn, rfl, x45, k5⟩
    refine ⟨!decide (kindAt ts j = "}"), et_test (ev_is (ev_op (ev_kind rfl p5 hj) ev_c (rv_ne rfl)) (congrArg (fun b => V.bl (!b)) (str_eq _ _))), fun hb H6 e6 => ?_, fun hb H6 e6 => ?_⟩
    · have hk : ¬ kindAt ts j = "}" := by simpa using hb
      have p6 := p5.ex e6
      have x46 := x45.trans (ExN.of e6)
      have k6 := k5
      obtain ⟨n, rfl⟩ : ∃ n', n = n' + 1 := ⟨n - 1, by omega⟩
      have eu : takeSteps (n + 1) ts j = andThen (takeStep ts j) fun s j => andThen (takeSteps n ts j) fun ss m => .ok (s :: ss, m) := by
        show (if kindAt ts j = "}" then _ else _) = _
        rw [if_neg hk]
      rw [eu] at k6
      have ea : (andThen (andThen (takeStep ts j) fun s j => andThen (takeSteps n ts j) fun ss m => .ok (s :: ss, m)) fun ss o => andThen (takeK ["}"] ts o) fun _ r => (.ok (⟨st, acc ++ ss⟩, r) : PR RobM)) =
          andThen (takeStep ts j) fun s1 j1 => andThen (takeSteps n ts j1) fun ss o => andThen (takeK ["}"] ts o) fun _ r => .ok (⟨st, (acc ++ [s1]) ++ ss⟩, r) := by
        cases takeStep ts j with
        | error e => rfl
        | ok x =>
          show andThen (andThen (takeSteps n ts x.2) fun ss m => .ok (x.1 :: ss, m)) _ = andThen (takeSteps n ts x.2) _
          cases takeSteps n ts x.2 with
          | error e => rfl
          | ok y =>
            show andThen (takeK ["}"] ts y.2) _ = andThen (takeK ["}"] ts y.2) _
            simp
      rw [ea] at k6
      have h6 := e6 _ _ h5
      refine ⟨fun σ2 H2 => ∃ (acc : List StepM) (vs : List V) (j1 n : Nat), σ2 = [some (.ref q), some sv, some (.ref p)] ∧ H2 p = some (.lst vs) ∧ All (StepAt K H2) vs acc ∧ TokAt K H2 sv st ∧ Par K H2 q dx l us ts j1 ∧ j1 < ts.length ∧ acc.length ≤ j1 ∧ ts.length - j1 < n ∧ j < j1 ∧ ExN q H4 H2 ∧
        Took K q dx l us ts H4 Q E (RobAt K) (andThen (takeSteps n ts j1) fun ss o => andThen (takeK ["}"] ts o) fun _ r => .ok (⟨st, acc ++ ss⟩, r)), ?_, ?_⟩
      · rintro σ2 H2 ⟨acc, vs, j1, n, q1, q2, q3, q4, q5, q6, q7, q8, q9, q10, q11⟩
        exact ⟨ts.length - j1, by omega, acc, vs, j1, n, q1, q2, q3, q4, q5, q6, q7, q8, rfl, q10, q11⟩
      refine s_appH rfl h6 (m_M (fun _ _ => rfl) rfl p6 hj ((k6.move x46 p6).bind fun s1 j1 hs1 v7 H7 x7 p7 r7 k7 => ?_))
      have hne : p ≠ q := ne_of h6 p6.ob (by intro z; cases z)
      have h7 := x7 _ _ hne h6
      have s7 := ES.ofN x7 p6.ob
      have lt := takeStep_lt hp.en hj hs1
      have sP : ES K H7 (upd H7 p (.lst (vs ++ [v7]))) := ES.put h7
      have hlen := ha5.len
      have := hp.sz
      refine ⟨vs, h7, by omega, acc ++ [s1], vs ++ [v7], j1, n, rfl, upd_same, (All.app (ha5.imp fun v x r => ((r.es (ES.of e6)).es s7)) (.cons r7 .nil)).imp fun v x r => r.es sP, TokAt.es sP (TokAt.es s7 (TokAt.mono e6 hst5)), p7.put h7 npl, lt.2, by rw [List.length_append]; simp; omega, by omega, lt.1, (x46.trans x7).put (xs := vs) np, k6.rest hs1⟩
    · have hk : kindAt ts j = "}" := by simpa using hb
      have p6 := p5.ex e6
      have k6 := k5.move (x45.trans (ExN.of e6)) p6
      obtain ⟨n, rfl⟩ : ∃ n', n = n' + 1 := ⟨n - 1, by omega⟩
      have eu : takeSteps (n + 1) ts j = .ok ([], j) := by
        show (if kindAt ts j = "}" then _ else _) = _
        rw [if_pos hk]
      rw [eu] at k6
      have k6' : Took K q dx l us ts H6 Q E (RobAt K) (andThen (takeK ["}"] ts j) fun _ r => .ok (⟨st, acc⟩, r)) := by
        have : (andThen (.ok ([], j)) fun ss o => andThen (takeK ["}"] ts o) fun _ r => (.ok (⟨st, acc ++ ss⟩, r) : PR RobM)) = andThen (takeK ["}"] ts j) fun _ r => .ok (⟨st, acc⟩, r) := by
          show andThen (takeK ["}"] ts j) _ = _
          rw [List.append_nil]
        rw [this] at k6
        exact k6
      refine q_dropH (m_take (ks := ["}"]) rfl p6 hj (ea_cons ev_c ea_nil) (by decide) (k6'.bind fun t8 o ht8 v8 H8 x8 p8 r8 k8 => ?_))
      have s8 := ES.ofN x8 p6.ob
      have h8 := x8 p _ (ne_of (e6 _ _ h5) p6.ob (by intro z; cases z)) (e6 _ _ h5)
      refine s_retP (P := fun v H' => RobAt K H' v ⟨st, acc⟩) (ep_make (ea_cons (ev_var rfl) (ea_cons (ev_var rfl) ea_nil)) rfl fun x da H9 e9 h9 => ⟨x, da, sv, p, vs, rfl, h9, TokAt.mono e9 (TokAt.es s8 (TokAt.mono e6 hst5)), e9 _ _ h8, ha5.imp fun v x r => ((r.es (ES.of e6)).es s8).es (ES.of e9)⟩) fun v H9 e9 hv => ?_
      exact k8.1 _ _ rfl v H9 (ExN.of e9) (p8.ex e9) hv

theorem ok_Parser_take_plan (T : Txt K mg) : FnR P w K mg base (L2.CX P w) 6 (He.ma K (He.ga K "Parser") "take_plan") (spM K (PlanAt K) takePlan) := by
  have G_Parser_take := ok_Parser_take (P := P) (w := w) (base := base) T
  have G_PlanTokens_init := ok_PlanTokens_init (P := P) (w := w) (base := base) T
  have G_Parser_next_kind := ok_Parser_next_kind (P := P) (w := w) (base := base) T
  have G_Parser_take_robot := ok_Parser_take_robot (P := P) (w := w) (base := base) T
  obtain ⟨fd, F⟩ := T.F_Parser_take_plan
  have B : Binds K fd P_Parser_take_plan [] := F.bindsN fun _ _ _ _ _ _ us hl => match us, hl with | [_], _ => rfl
  refine fnR_of F B (F.ok sc_Parser_take_plan (fun vs H Q E h => ?_) (fun cdv A outer s H vs Q E hr h => ?_))
  · obtain ⟨q, dx, l, us, ts, i, rfl, _⟩ := h
    rfl
  · have hu := hu_of hr
    obtain ⟨q, dx, l, us, ts, i, rfl, hp, hi, k⟩ := h
    refine ⟨_, (pss_cons (ps_set (i := 1) sc_Parser_take_plan.nd rfl (Or.inl rfl) (pe_methR (pv 0) T.c_Parser T.m_Parser_take G_Parser_take (hr.mono (by decide)) px (pa_cons pe_str pa_nil)))
        (pss_cons (ps_set (i := 2) sc_Parser_take_plan.nd rfl (Or.inl rfl) (pe_lst (pa_cons (pe_methR (pv 0) T.c_Parser T.m_Parser_take G_Parser_take (hr.mono (by decide)) px (pa_cons (pe_gs T.v_NUMBER) pa_nil)) pa_nil)))
        (pss_cons (ps_while (passes_of rfl) (pt_cmpR op_eq (pe_methR0 (pv 0) T.c_Parser T.m_Parser_next_kind G_Parser_next_kind (hr.mono (by decide)) px) (pe_gs T.v_NUMBER) (nomark _)) (pss_one (ps_expr (pe_bm PySem.F.plainAttrs_list PySem.F.slot_list_append PySem.F.type_list_append mt_append (pv 2) (pa_cons (pe_methR (pv 0) T.c_Parser T.m_Parser_take G_Parser_take (hr.mono (by decide)) px (pa_cons (pe_gs T.v_NUMBER) pa_nil)) pa_nil)))))
        (pss_cons (ps_expr (pe_methR (pv 0) T.c_Parser T.m_Parser_take G_Parser_take (hr.mono (by decide)) px (pa_cons pe_str pa_nil)))
        (pss_cons (ps_set (i := 3) sc_Parser_take_plan.nd rfl (Or.inl rfl) (pe_lst (pa_cons (pe_methR0 (pv 0) T.c_Parser T.m_Parser_take_robot G_Parser_take_robot (hr.mono (by decide)) px) (pa_cons (pe_methR0 (pv 0) T.c_Parser T.m_Parser_take_robot G_Parser_take_robot (hr.mono (by decide)) px) pa_nil))))
        (pss_cons (ps_expr (pe_methR (pv 0) T.c_Parser T.m_Parser_take G_Parser_take (hr.mono (by decide)) px (pa_cons (pe_gs T.v_END) pa_nil)))
        (pss_one (ps_ret (StX.pe_makeR T.k_PlanTokens G_PlanTokens_init (hr.mono (by decide)) (by rfl) T.g_PlanTokens px (pa_cons (pv 1) (pa_cons (pv 2) (pa_cons (pv 3) pa_nil)))))))))))), ?_⟩
    have bb : big + 10 < sizeLine := by decide
    refine q_setH (m_take (ks := ["shelf"]) rfl hp hi (ea_cons ev_c ea_nil) (by decide) (k.bind fun kw j1 ht1 kv H1 x1 p1 r1 k1 => ?_))
    have l1 := takeK_lt hp.en (by decide +kernel) ht1
    refine q_lst1H (m_take (ks := ["number"]) rfl p1 l1 (ea_cons ev_c ea_nil) (by decide) (k1.bind fun n0 j4 ht2 v4 H4 x4 p4 r4 k4 => ?_))
    have l4 := takeK_lt hp.en (by decide +kernel) ht2
    intro p np
    have e5 : Ex H4 (upd H4 p (.lst [v4])) := Ex.new np
    have npl : p ≠ l := fun z => by
      rw [z, p4.ls] at np
      cases np
    have p5 := p4.ex e5
    refine q_while (fun m σ' H' => ∃ (acc : List Tk) (vs : List V) (j n : Nat), σ' = [some (.ref q), some kv, some (.ref p), none] ∧ H' p = some (.lst vs) ∧ All (TokAt K H') vs acc ∧ TokAt K H' kv kw ∧ Par K H' q dx l us ts j ∧ j < ts.length ∧ acc.length ≤ j ∧ ts.length - j < n ∧ m = ts.length - j ∧ ExN q H4 H' ∧
        Took K q dx l us ts H4 Q E (PlanAt K) (andThen (takeNums n ts j) fun ns n => andThen (takeK [";"] ts n) fun _ o => andThen (takeRobot ts o) fun r0 p => andThen (takeRobot ts p) fun r1 q => andThen (takeK ["end"] ts q) fun _ r => .ok (⟨kw, acc ++ ns, [r0, r1]⟩, r))) (ts.length - j4)
      ⟨[n0], [v4], j4, ts.length + 1, rfl, upd_same, .cons (TokAt.mono e5 r4) .nil, TokAt.mono e5 (TokAt.es (ES.ofN x4 p1.ob) r1), p5, l4, by have := (takeK_ok ht2).2.2; show 1 ≤ j4; omega, by omega, rfl, ExN.of e5, k4⟩ ?_
    rintro m σ' H5 ⟨acc, vs, j, n, rfl, h5, ha5, hst5, p5, hj, hal, hn, rfl, x45, k5⟩
    refine ⟨decide (kindAt ts j = "number"), et_test (ev_is (ev_op (ev_kind rfl p5 hj) ev_c (rv_eq rfl)) (congrArg V.bl (str_eq _ _))), fun hb H6 e6 => ?_, fun hb H6 e6 => ?_⟩
    · have hk : kindAt ts j = "number" := of_decide_eq_true hb
      have p6 := p5.ex e6
      have x46 := x45.trans (ExN.of e6)
      have k6 := k5
      obtain ⟨n, rfl⟩ : ∃ n', n = n' + 1 := ⟨n - 1, by omega⟩
      have eu : takeNums (n + 1) ts j = andThen (takeK ["number"] ts j) fun t j => andThen (takeNums n ts j) fun r m => .ok (t :: r, m) := by
        show (if kindAt ts j = "number" then _ else _) = _
        rw [if_pos hk]
      rw [eu] at k6
      have ea : ∀ F : List Tk → Nat → PR PlanM, (andThen (andThen (takeK ["number"] ts j) fun t j => andThen (takeNums n ts j) fun r m => .ok (t :: r, m)) F) = andThen (takeK ["number"] ts j) fun t j => andThen (takeNums n ts j) fun r m => F (t :: r) m := fun F => by
        cases takeK ["number"] ts j with
        | error e => rfl
        | ok x =>
          show andThen (andThen (takeNums n ts x.2) fun r m => .ok (x.1 :: r, m)) _ = andThen (takeNums n ts x.2) _
          cases takeNums n ts x.2 with
          | error e => rfl
          | ok y => rfl
      rw [ea] at k6
      have h6 := e6 _ _ h5
      refine ⟨fun σ2 H2 => ∃ (acc : List Tk) (vs : List V) (j1 n : Nat), σ2 = [some (.ref q), some kv, some (.ref p), none] ∧ H2 p = some (.lst vs) ∧ All (TokAt K H2) vs acc ∧ TokAt K H2 kv kw ∧ Par K H2 q dx l us ts j1 ∧ j1 < ts.length ∧ acc.length ≤ j1 ∧ ts.length - j1 < n ∧ j < j1 ∧ ExN q H4 H2 ∧
        Took K q dx l us ts H4 Q E (PlanAt K) (andThen (takeNums n ts j1) fun ns n => andThen (takeK [";"] ts n) fun _ o => andThen (takeRobot ts o) fun r0 p => andThen (takeRobot ts p) fun r1 q => andThen (takeK ["end"] ts q) fun _ r => .ok (⟨kw, acc ++ ns, [r0, r1]⟩, r)), ?_, ?_⟩
      · rintro σ2 H2 ⟨acc, vs, j1, n, q1, q2, q3, q4, q5, q6, q7, q8, q9, q10, q11⟩
        exact ⟨ts.length - j1, by omega, acc, vs, j1, n, q1, q2, q3, q4, q5, q6, q7, q8, rfl, q10, q11⟩
      refine s_appH rfl h6 (m_take (ks := ["number"]) rfl p6 hj (ea_cons ev_c ea_nil) (by decide) ((k6.move x46 p6).bind fun s1 j1 hs1 v7 H7 x7 p7 r7 k7 => ?_))
      have hne : p ≠ q := ne_of h6 p6.ob (by intro z; cases z)
      have h7 := x7 _ _ hne h6
      have s7 := ES.ofN x7 p6.ob
      have lt := takeK_lt hp.en (by decide +kernel) hs1
      have lt2 := (takeK_ok hs1).2.2
      have sP : ES K H7 (upd H7 p (.lst (vs ++ [v7]))) := ES.put h7
      have hlen := ha5.len
      have := hp.sz
      refine ⟨vs, h7, by omega, acc ++ [s1], vs ++ [v7], j1, n, rfl, upd_same, (All.app (ha5.imp fun v x r => ((TokAt.mono e6 r).es s7)) (.cons r7 .nil)).imp fun v x r => r.es sP, TokAt.es sP (TokAt.es s7 (TokAt.mono e6 hst5)), p7.put h7 npl, lt, by rw [List.length_append]; simp; omega, by omega, by omega, (x46.trans x7).put (xs := vs) np, ?_⟩
      have kr := k6.rest hs1
      simpa only [List.append_assoc, List.singleton_append] using kr
    · have hk : ¬ kindAt ts j = "number" := of_decide_eq_false hb
      have p6 := p5.ex e6
      have k6 := k5.move (x45.trans (ExN.of e6)) p6
      obtain ⟨n, rfl⟩ : ∃ n', n = n' + 1 := ⟨n - 1, by omega⟩
      have eu : takeNums (n + 1) ts j = .ok ([], j) := by
        show (if kindAt ts j = "number" then _ else _) = _
        rw [if_neg hk]
      rw [eu] at k6
      replace k6 := Took.rest k6 rfl
      rw [List.append_nil] at k6
      refine q_dropH (m_take (ks := [";"]) rfl p6 hj (ea_cons ev_c ea_nil) (by decide) (k6.bind fun t8 o ht8 v8 H8 x8 p8 r8 k8 => ?_))
      have l8 := takeK_lt hp.en (by decide +kernel) ht8
      have hpq : p ≠ q := ne_of h5 p5.ob (by intro z; cases z)
      have s8 := ES.ofN x8 p6.ob
      have h8 := x8 p _ hpq (e6 _ _ h5)
      have a8 := ha5.imp fun v x r => (TokAt.mono e6 r).es s8
      have t8' := TokAt.es s8 (TokAt.mono e6 hst5)
      -- robots = [self.take_robot(), self.take_robot()]
      refine m_M (fun _ _ => rfl) rfl p8 l8 (k8.bind fun r0 i9 hr9 v9 H9 x9 p9 rr9 k9 => ?_)
      have l9 := (takeRobot_lt hp.en l8 hr9).2
      refine m_M (fun _ _ => rfl) rfl p9 l9 (k9.bind fun r1 i10 hr10 v10 H10 x10 p10 rr10 k10 => ?_)
      have l10 := (takeRobot_lt hp.en l9 hr10).2
      refine ⟨by show 2 ≤ sizeLine; decide, fun rp nrp => ?_⟩
      have e11 : Ex H10 (upd H10 rp (.lst [v9, v10])) := Ex.new nrp
      have s9 := ES.ofN x9 p8.ob
      have s10 := ES.ofN x10 p9.ob
      have p11 := p10.ex e11
      have rr9' := (RobAt.exn x10 p9.ob rr9).ex e11
      have rr10' := rr10.ex e11
      have h11 := e11 _ _ (x10 p _ hpq (x9 p _ hpq h8))
      have a11 := a8.imp fun v x r => TokAt.mono e11 (TokAt.es s10 (TokAt.es s9 r))
      have t11 := TokAt.mono e11 (TokAt.es s10 (TokAt.es s9 t8'))
      refine q_dropH (m_take (ks := ["end"]) rfl p11 l10 (ea_cons ev_c ea_nil) (by decide) ((k10.move (ExN.of e11) p11).bind fun te i12 hte v12 H12 x12 p12 r12 k12 => ?_))
      have s12 := ES.ofN x12 p11.ob
      have hrq : rp ≠ q := fun z => by
        rw [z, p10.ob] at nrp
        cases nrp
      have h12 := x12 p _ hpq h11
      have hr12 := x12 rp _ hrq upd_same
      refine s_retP (P := fun v H' => PlanAt K H' v ⟨kw, acc, [r0, r1]⟩) (ep_make (ea_cons (ev_var rfl) (ea_cons (ev_var rfl) (ea_cons (ev_var rfl) ea_nil))) rfl fun x da H13 e13 h13 => ⟨x, da, kv, p, vs, rp, [v9, v10], rfl, h13, TokAt.mono e13 (TokAt.es s12 t11), e13 _ _ h12,
        a11.imp fun v x r => TokAt.mono e13 (TokAt.es s12 r), e13 _ _ hr12, .cons ((RobAt.exn x12 p11.ob rr9').ex e13) (.cons ((RobAt.exn x12 p11.ob rr10').ex e13) .nil)⟩) fun v H13 e13 hv => ?_
      exact k12.1 _ _ rfl v H13 (ExN.of e13) (p12.ex e13) hv


/-- the parse of a text -/
def Parses {α : Type} (K : PySem.W.Frag) (H : Hp) (Q : VK) (E : XK) (R : Hp → V → α → Prop) (r : Except Err α) : Prop :=
  (∀ a, r = .ok a → ∀ v H', Ex H H' → R H' v a → Q v H') ∧ (∀ e, r = .error e → Fails H E (He.ga K "SyntaxFault") (sfF (e.1 : Nat) (e.2 : Nat)))
def spParse (K : PySem.W.Frag) : Sp := fun vs H Q E => ∃ z : Str, vs = [.str z] ∧ z.length + 10 ≤ big ∧ Parses K H Q E (PlanAt K) (parse z)

theorem ok_parse_plan (T : Txt K mg) : FnR P w K mg base (L2.CX P w) 7 (He.ga K "parse_plan") (spParse K) := by
  have G_Parser_take_plan := ok_Parser_take_plan (P := P) (w := w) (base := base) T
  have G_Parser_init := ok_Parser_init (P := P) (w := w) (base := base) T
  have G_read_tokens := ok_read_tokens (P := P) (w := w) (base := base) T
  have KP_read_tokens : PySem.W.keepIn K (.ref (He.ga K "read_tokens")) = true := by
    obtain ⟨_, F⟩ := T.F_read_tokens
    exact F.kp
  obtain ⟨fd, F⟩ := T.F_parse_plan
  have B : Binds K fd P_parse_plan [] := F.bindsN fun _ _ _ _ _ _ us hl => match us, hl with | [_], _ => rfl
  refine fnR_of F B (F.ok sc_parse_plan (fun vs H Q E h => ?_) (fun cdv A outer s H vs Q E hr h => ?_))
  · obtain ⟨z, rfl, _⟩ := h
    rfl
  · have hu := hu_of hr
    obtain ⟨z, rfl, hz, k⟩ := h
    refine ⟨_, (pss_one (ps_ret (pe_methR0 (StX.pe_makeR T.k_Parser G_Parser_init (hr.mono (by decide)) (by rfl) T.g_Parser px (pa_cons (pe_callR G_read_tokens (hr.mono (by decide)) T.g_read_tokens KP_read_tokens px (pa_cons (pv 0) pa_nil)) pa_nil)) T.c_Parser T.m_Parser_take_plan G_Parser_take_plan (hr.mono (by decide)) px))), ?_⟩
    refine s_retH ?_
    refine ⟨_, rfl, ?_⟩
    refine ⟨z, rfl, hz, fun ts hts v H1 e1 ht => ?_, fun l c hlc => ?_⟩
    · obtain ⟨l, us, rfl, hl, ha⟩ := ht
      obtain ⟨f1, f2, f3, f4⟩ := lex_facts hts
      have bb : big = 1000000 := rfl
      intro x dx nx n2 n3
      refine ⟨x, dx, [.ref l], parF l 0, rfl, rfl, upd_same, fun H2 ho kp => ⟨rfl, ?_⟩⟩
      have s2 : Ex H1 H2 := fun b o q => kp b o (by rw [upd_ne (ne_of_none q nx), upd_ne (ne_of_none q n2)]; exact q) (ne_of_none q nx)
      have e2 : Ex H1 H2 := s2
      have nH : H x = none := fresh_back e1 nx
      have eN : ∀ {H' : Hp}, ExN x H2 H' → Ex H H' := fun {H'} xx a o h => xx a o (ne_of_none h nH) (e2 _ _ (e1 _ _ h))
      refine ⟨x, dx, _, rfl, ho, rfl, x, dx, l, us, ts, 0, rfl, ⟨ho, e2 _ _ hl, ha.imp fun v x r => TokAt.mono e2 r, fun t ht => ?_, by omega, f4⟩, f3, fun a j haj v H' xx pp rr => ?_, fun e he d H' xx nd hd => ?_⟩
      · have := f1 t ht
        omega
      · exact k.1 a (by unfold parse; rw [hts]; dsimp only; rw [haj]) v H' (eN xx) rr
      · exact k.2 e (by unfold parse; rw [hts]; dsimp only; rw [he]) d H' (eN xx) (fresh_back (e1.trans e2) nd) hd
    · exact k.2 (l, c) (by unfold parse; rw [hlc])

end SB

set_option maxHeartbeats 4000000
namespace SB
open PySem PySem.Spec PyProof.Rows L2
open TL (tl)
/-- the text of a number -/
def numS (n : Nat) : Str := Str.ofString (toString ((n : Nat) : Int))
theorem numS_tl (n : Nat) : tl (numS n) = TL.numL n := TL.tl_num n
theorem numS_int {n : Nat} (h : n < 100) : PySem.intText? (numS n) = some (n : Int) := by
  have := TL.numL_len (n := n) (k := 2) (by decide) h
  exact TL.int_num (by omega)
theorem numS_len {n : Nat} (h : n < 100) : (numS n).length ≤ 2 := by
  have := TL.numL_len (n := n) (k := 2) (by decide) h
  rw [← numS_tl] at this
  rw [← len_tl]
  exact this
/-! ### labels -/
abbrev KVs := List (Key × V)
def labPut (m : KVs) (o : Option Tk) (n : Nat) : KVs := match o with
  | none => m
  | some t => match valV m (.inr t.text : Key) with
    | some _ => m
    | none => putK m (.inr t.text : Key) (.int n)
def labsFrom : List StepM → Nat → KVs → KVs
  | [], _, m => m
  | s :: r, i, m => labsFrom r (i + 1) (labPut m s.label i)
def firstLabs (ss : List StepM) : KVs := labsFrom ss 0 []
def labIx : List StepM → Str → Nat → Option Nat
  | [], _, _ => none
  | s :: r, x, i => if (s.label.map fun t => t.text) = some x then some i else labIx r x (i + 1)
theorem labPut_len (m : KVs) (o : Option Tk) (n : Nat) : (labPut m o n).length ≤ m.length + 1 := by
  unfold labPut
  cases o with
  | none => exact Nat.le_succ _
  | some t =>
    dsimp only
    cases h : valV m (.inr t.text : Key) with
    | some _ => exact Nat.le_succ _
    | none =>
      dsimp only
      rw [putK_new _ h, List.length_append]
      exact Nat.le_refl _
theorem labPut_val (m : KVs) (o : Option Tk) (n : Nat) (x : Str) : valV (labPut m o n) (.inr x : Key) = match valV m (.inr x : Key) with
    | some v => some v
    | none => if (o.map fun t => t.text) = some x then some (.int n) else none := by
  unfold labPut
  cases o with
  | none =>
    cases h : valV m (.inr x : Key) <;> simp [h]
  | some t =>
    dsimp only
    cases h : valV m (.inr t.text : Key) with
    | some u =>
      dsimp only
      cases h2 : valV m (.inr x : Key) with
      | some v => rfl
      | none =>
        dsimp only
        rw [if_neg]
        intro e
        have e2 : t.text = x := Option.some.inj e
        rw [e2] at h
        rw [h] at h2
        cases h2
    | none =>
      dsimp only
      rw [valV_put]
      by_cases e : t.text = x
      · subst e
        rw [if_pos rfl, h]
        simp
      · rw [if_neg (fun q => e (Sum.inr.inj q).symm)]
        cases h2 : valV m (.inr x : Key) with
        | some v => rfl
        | none =>
          dsimp only
          rw [if_neg]
          intro q
          exact e (Option.some.inj q)
theorem labsFrom_val : ∀ (ss : List StepM) (i : Nat) (m : KVs) (x : Str), valV (labsFrom ss i m) (.inr x : Key) = match valV m (.inr x : Key) with
    | some v => some v
    | none => (labIx ss x i).map fun (n : Nat) => V.int n
  | [], i, m, x => by
    show valV m _ = _
    cases h : valV m (.inr x : Key) <;> rfl
  | s :: r, i, m, x => by
    show valV (labsFrom r (i + 1) (labPut m s.label i)) _ = _
    rw [labsFrom_val r (i + 1), labPut_val]
    cases h : valV m (.inr x : Key) with
    | some v => rfl
    | none =>
      dsimp only
      by_cases e : (s.label.map fun t => t.text) = some x
      · rw [if_pos e]
        show some _ = (if _ then _ else _ : Option Nat).map _
        rw [if_pos e]
        rfl
      · rw [if_neg e]
        show _ = (if _ then _ else _ : Option Nat).map _
        rw [if_neg e]
theorem firstLabs_val (ss : List StepM) (x : Str) : valV (firstLabs ss) (.inr x : Key) = (labIx ss x 0).map fun (n : Nat) => V.int n := by
  unfold firstLabs
  rw [labsFrom_val]
  rfl
/-! ### what a plan must be -/
structure ValidS (ss : List StepM) : Prop where
  len : ss.length ≤ 20
  own : ∀ (i : Nat) s t, ss[i]? = some s → s.label = some t → labIx ss t.text 0 = some i
  tgt : ∀ s t, s ∈ ss → s.target = some t → ∃ n, labIx ss t.text 0 = some n
structure ValidP (p : PlanM) (bx : List Nat) (a b : Nat) (r0 r1 : RobM) : Prop where
  nums : p.numbers.map (·.text) = bx.map numS
  most : ∀ n ∈ bx, n ≤ 3
  lo : 3 ≤ bx.length
  hi : bx.length ≤ 12
  rob : p.robots = [r0, r1]
  sa : r0.start.text = numS a
  sb : r1.start.text = numS b
  la : a < bx.length
  lb : b < bx.length
  ab : a ≠ b
  v0 : ValidS r0.steps
  v1 : ValidS r1.steps
/-- a step with the place to which it leads -/
abbrev Lk := Str × Option Nat
def linkOf (ss : List StepM) (s : StepM) : Lk := (s.command.text, s.target.bind fun t => labIx ss t.text 0)
def linked (ss : List StepM) : List Lk := ss.map (linkOf ss)
theorem take_more {α : Type} : ∀ {l : List α} {i : Nat} {x : α}, l[i]? = some x → l.take (i + 1) = l.take i ++ [x]
  | [], i, x, h => by simp at h
  | a :: l, 0, x, h => by
    obtain rfl : a = x := Option.some.inj h
    rfl
  | a :: l, i + 1, x, h => by
    show a :: l.take (i + 1) = a :: l.take i ++ [x]
    rw [take_more (l := l) (i := i) h]
    rfl
end SB

set_option maxHeartbeats 4000000
namespace SB
open PySem PySem.Spec PyProof.Rows L2
open TL (tl)
open Evl
variable {P : Program} {w : World} {K : PySem.W.Frag} {mg : Str → Option Value} {base : Heap}


def StepsAt (K : PySem.W.Frag) (H : Hp) (v : V) (ss : List StepM) : Prop := LAt H (StepAt K H) v ss
theorem StepsAt.ex {K : PySem.W.Frag} {H H' : Hp} {v : V} {ss : List StepM} (e : Ex H H') (h : StepsAt K H v ss) : StepsAt K H' v ss := by
  obtain ⟨a, vs, rfl, h1, h2⟩ := h
  exact ⟨a, vs, rfl, e _ _ h1, h2.imp fun v x r => r.es (ES.of e)⟩
theorem PlanAt.ex {K : PySem.W.Frag} {H H' : Hp} {v : V} {p : PlanM} (e : Ex H H') (h : PlanAt K H v p) : PlanAt K H' v p := by
  obtain ⟨a, dx, kv, n, ns, r, rs, e1, e2, h1, h2, h3, h4, h5⟩ := h
  exact ⟨a, dx, kv, n, ns, r, rs, e1, e _ _ e2, h1.mono e, e _ _ h2, h3.imp fun v x r => r.mono e, e _ _ h4, h5.imp fun v x r => r.ex e⟩
/-- a new list | a new dict -/
def RetN (o : HO) (H : Hp) (Q : VK) : Prop := ∀ p H2, H p = none → Ex H H2 → H2 p = some o → Q (.ref p) H2
def spFL (K : PySem.W.Frag) : Sp := fun vs H Q _ => ∃ v ss, vs = [v] ∧ StepsAt K H v ss ∧ ss.length ≤ 1000 ∧ RetN (.dK (firstLabs ss)) H Q
theorem opt_non {K : PySem.W.Frag} {H : Hp} {v : V} {o : Option Tk} (h : OptAt K H v o) : decide (v = V.non) = o.isNone := by
  cases o with
  | none =>
    have e : v = V.non := h
    rw [e]
    rfl
  | some t =>
    obtain ⟨a, dx, e, _⟩ := h
    rw [e]
    rfl

theorem ok_first_labels (T : Txt K mg) : FnR P w K mg base (L2.CX P w) 1 (He.ga K "first_labels") (spFL K) := by
  obtain ⟨fd, F⟩ := T.F_first_labels
  have B : Binds K fd P_first_labels [] := F.bindsN fun _ _ _ _ _ _ us hl => match us, hl with | [_], _ => rfl
  refine fnR_of F B (F.ok sc_first_labels (fun vs H Q E h => ?_) (fun cdv A outer s H vs Q E hr h => ?_))
  · obtain ⟨v, ss, rfl, _⟩ := h
    rfl
  · have hu := hu_of hr
    obtain ⟨v, ss, rfl, hs, hz, k⟩ := h
    refine ⟨_, (pss_cons (ps_set (i := 1) sc_first_labels.nd rfl (Or.inl rfl) pe_dnewK)
        (pss_cons (ps_for (passes_of rfl) rfl (pi_enum (by rfl) T.b_enumerate (pa_cons (pv 0) pa_nil)) (pg_tup rfl (pgs_cons (pg_name (i := 2) sc_first_labels.nd rfl (Or.inl rfl)) (pgs_cons (pg_name (i := 3) sc_first_labels.nd rfl (Or.inl rfl)) pgs_nil))) (pss_one (ps_if (pt_cmpR op_notN (pe_fld (pv 3) rfl) pe_non (nomark _)) (pss_one (ps_expr (pe_dsetd (pv 1) (pe_fld (pe_fld (pv 3) rfl) rfl) (pv 2) ⟨rfl, rfl, rfl, rfl⟩))) pss_nil)))
        (pss_one (ps_ret (pv 1))))), ?_⟩
    obtain ⟨a, ws, rfl, hl, hA⟩ := hs
    have hlen := hA.len
    have bl : 1000 < sizeLine := by decide
    refine q_setH fun d hd => ?_
    have e1 : Ex H (upd H d (.dK [])) := Ex.new hd
    refine q_forEnum (ea_cons (ev_var rfl) ea_nil) (sq_of (e1 _ _ hl)) rfl (fun i σ' H' => ∃ (m : KVs) (x y : Option V), σ' = [some (.ref a), some (.ref d), x, y] ∧ Ex H H' ∧ H' d = some (.dK m) ∧ m.length ≤ i ∧ firstLabs ss = labsFrom (ss.drop i) i m)
      (fun H2 e2 => ⟨[], none, none, rfl, e1.trans e2, e2 _ _ upd_same, Nat.le_refl _, by rw [List.drop_zero]; rfl⟩) (fun i σ' H' _ ⟨_, _, _, _, e, _⟩ => sq_of (e _ _ hl)) ?_ ?_
    · rintro i v σ' H' H2 hv ⟨m, x, y, rfl, e2, h2, hm, hf⟩ e3
      obtain ⟨s, hs, sa, sdx, lv, cv, tv, rfl, h3, hlab, hc, ht⟩ := hA.getV hv
      have hi := (List.getElem?_eq_some_iff.mp hs).1
      have hdp : ss.drop i = s :: ss.drop (i + 1) := by
        rw [List.drop_eq_getElem_cons hi]
        rw [List.getElem?_eq_getElem hi] at hs
        rw [Option.some.inj hs]
      rw [hdp] at hf
      have e23 := e2.trans e3
      refine s_when (b := !s.label.isNone) (et_test (ev_is (ev_op (ev_fld (ev_var rfl) (e23 _ _ h3) T.c_StepTokens T.n_StepTokens_label rfl) ev_c rv_noN) (congrArg (fun b => V.bl (!b)) (opt_non hlab)))) (fun hb H4 e4 => ?_) (fun hb H4 e4 => ?_)
      · obtain ⟨t, et⟩ : ∃ t, s.label = some t := by
          cases q : s.label with
          | none => rw [q] at hb; cases hb
          | some t => exact ⟨t, rfl⟩
        rw [et] at hlab
        obtain ⟨ta, tdx, rfl, hta⟩ := hlab
        have e24 := e23.trans e4
        have h24 := e4 _ _ (e3 _ _ h2)
        have ep : labPut m s.label i = match valV m (.inr t.text : Key) with
          | some _ => m
          | none => putK m (.inr t.text : Key) (.int i) := by rw [et]; rfl
        refine s_dropH ⟨_, rfl, d, rfl, .inl ⟨m, .inl h24⟩, ev_fld (ev_fld (ev_var rfl) (e24 _ _ h3) T.c_StepTokens T.n_StepTokens_label rfl) (e24 _ _ hta) T.c_Token T.n_Token_text rfl H4 (Ex.refl _) _ fun H5 e5 => ⟨_, rfl, m, .inr t.text, e5 _ _ h24, rfl, by omega, fun v hv => ?_, fun hv => ?_⟩⟩
        · refine ⟨m, _, _, rfl, e24.trans e5, e5 _ _ h24, by omega, ?_⟩
          rw [hf]
          show labsFrom _ _ (labPut m s.label i) = _
          rw [ep, hv]
        · refine ⟨putK m (.inr t.text : Key) (.int i), _, _, rfl, Ex.mut (e24.trans e5) hd, upd_same, ?_, ?_⟩
          · rw [putK_new _ hv, List.length_append]
            show m.length + 1 ≤ i + 1
            omega
          · rw [hf]
            show labsFrom _ _ (labPut m s.label i) = _
            rw [ep, hv]
      · refine ⟨m, _, _, rfl, e23.trans e4, e4 _ _ (e3 _ _ h2), by omega, ?_⟩
        rw [hf]
        show labsFrom _ _ (labPut m s.label i) = _
        have : s.label = none := by
          cases q : s.label with
          | none => rfl
          | some t => rw [q] at hb; cases hb
        rw [this]
        rfl
    · rintro σ' H' ⟨m, x, y, rfl, e2, h2, hm, hf⟩
      rw [hlen, List.drop_length] at hf
      refine s_ret (ev_var rfl) fun H3 e3 => k d H3 hd (e2.trans e3) ?_
      rw [hf]
      exact e3 _ _ h2


def spStF (K : PySem.W.Frag) : Sp := fun vs H Q _ => ∃ v ss, vs = [v] ∧ StepsAt K H v ss ∧ ValidS ss ∧ RetN (.lst []) H Q
def spPlF (K : PySem.W.Frag) : Sp := fun vs H Q _ => ∃ v p bx a b r0 r1, vs = [v] ∧ PlanAt K H v p ∧ ValidP p bx a b r0 r1 ∧ RetN (.lst []) H Q
def spCk (K : PySem.W.Frag) : Sp := fun vs H Q _ => ∃ v p bx a b r0 r1, vs = [v] ∧ PlanAt K H v p ∧ ValidP p bx a b r0 r1 ∧ RetV .non H Q
theorem and_f {a b : Bool} (h : a = true → b = false) : (a && b) = false := by
  cases a with
  | false => rfl
  | true => exact h rfl
theorem pt_nums {p : PlanM} {bx : List Nat} {a b : Nat} {r0 r1 : RobM} (V : ValidP p bx a b r0 r1) : p.numbers.length = bx.length := by
  have := congrArg List.length V.nums
  simpa using this
theorem num_at {p : PlanM} {bx : List Nat} {a b : Nat} {r0 r1 : RobM} (V : ValidP p bx a b r0 r1) {i : Nat} {t : Tk} (h : p.numbers[i]? = some t) : ∃ n, bx[i]? = some n ∧ t.text = numS n ∧ n ≤ 3 := by
  have e : (p.numbers.map (·.text))[i]? = (bx.map numS)[i]? := by rw [V.nums]
  rw [List.getElem?_map, List.getElem?_map, h] at e
  cases q : bx[i]? with
  | none => rw [q] at e; cases e
  | some n =>
    rw [q] at e
    exact ⟨n, rfl, Option.some.inj e, V.most n (List.mem_of_getElem? q)⟩

theorem ok_step_faults (T : Txt K mg) : FnR P w K mg base (L2.CX P w) 2 (He.ga K "step_faults") (spStF K) := by
  have G_first_labels := ok_first_labels (P := P) (w := w) (base := base) T
  have KP_first_labels : PySem.W.keepIn K (.ref (He.ga K "first_labels")) = true := by
    obtain ⟨_, F⟩ := T.F_first_labels
    exact F.kp
  obtain ⟨fd, F⟩ := T.F_step_faults
  have B : Binds K fd P_step_faults [] := F.bindsN fun _ _ _ _ _ _ us hl => match us, hl with | [_], _ => rfl
  refine fnR_of F B (F.ok sc_step_faults (fun vs H Q E h => ?_) (fun cdv A outer s H vs Q E hr h => ?_))
  · obtain ⟨v, ss, rfl, _⟩ := h
    rfl
  · have hu := hu_of hr
    obtain ⟨v, ss, rfl, hs, hV, k⟩ := h
    refine ⟨_, (pss_cons (ps_set (i := 1) sc_step_faults.nd rfl (Or.inl rfl) (pe_lst pa_nil))
        (pss_cons (ps_set (i := 2) sc_step_faults.nd rfl (Or.inl rfl) (pe_callR G_first_labels (hr.mono (by decide)) T.g_first_labels KP_first_labels px (pa_cons (pv 0) pa_nil)))
        (pss_cons (ps_for (passes_of rfl) rfl (pi_enum (by rfl) T.b_enumerate (pa_cons (pv 0) pa_nil)) (pg_tup rfl (pgs_cons (pg_name (i := 3) sc_step_faults.nd rfl (Or.inl rfl)) (pgs_cons (pg_name (i := 4) sc_step_faults.nd rfl (Or.inl rfl)) pgs_nil))) (pss_cons (ps_if (pt_cmpR op_ge (pv 3) (pe_gi T.v_MOST_STEPS) (nomark _)) (pss_one ps_never) pss_nil)
        (pss_cons (ps_if (pw_and (pt_cmpR op_notN (pe_fld (pv 4) rfl) pe_non (nomark _)) (pw_and1 (pt_cmpR op_lt (pe_dget hu (pv 2) (pe_fld (pe_fld (pv 4) rfl) rfl) (fun _ _ => rfl)) (pv 3) (nomark _)))).pt (pss_one ps_never) pss_nil)
        (pss_one (ps_if (pw_and (pt_cmpR op_notN (pe_fld (pv 4) rfl) pe_non (nomark _)) (pw_and1 (pt_cmp (pc_dnotin hu (pe_fld (pe_fld (pv 4) rfl) rfl) (pv 2))))).pt (pss_one ps_never) pss_nil)))))
        (pss_one (ps_ret (pv 1)))))), ?_⟩
    obtain ⟨a, ws, rfl, hl, hA⟩ := hs
    have hlen := hA.len
    have h20 := hV.len
    refine q_asgL (el_lst ea_nil (by decide)) fun p H1 hp e1 h1 => ?_
    refine q_setH ⟨_, rfl, .ref a, ss, rfl, ⟨a, ws, rfl, e1 _ _ hl, hA.imp fun v x r => r.es (ES.of e1)⟩, by omega, fun d H2 hd e2 h2 => ?_⟩
    have e12 := e1.trans e2
    refine q_forEnum (ea_cons (ev_var rfl) ea_nil) (sq_of (e12 _ _ hl)) rfl (fun i σ' H' => ∃ (x y : Option V), σ' = [some (.ref a), some (.ref p), some (.ref d), x, y] ∧ Ex H2 H')
      (fun H3 e3 => ⟨none, none, rfl, e3⟩) (fun i σ' H' _ ⟨_, _, _, e⟩ => sq_of (e _ _ (e12 _ _ hl))) ?_ ?_
    · rintro i v σ' H' H3 hv ⟨x, y, rfl, e2'⟩ e3'
      obtain ⟨s, hs, sa, sdx, lv, cv, tv, rfl, h3, hlab, hc, ht⟩ := hA.getV hv
      have hi := (List.getElem?_eq_some_iff.mp hs).1
      have e3 := e2'.trans e3'
      have e03 := e12.trans e3
      have hd3 : H3 d = some (.dK (firstLabs ss)) := e3 _ _ h2
      refine q_when (b := false) (et_test (ev_is (ev_op (ev_var rfl) ev_c rv_I0) (congrArg V.bl (decide_eq_false ?_)))) (fun hb => absurd hb (by decide)) (fun _ H4 e4 => ?_)
      · omega
      have e04 := e03.trans e4
      have hlab4 := hlab.es (ES.of e04)
      have b1 : (!s.label.isNone && false) = false := by cases s.label.isNone <;> rfl
      refine q_when (b := false) (et_is (et_and (et_test (ev_is (ev_op (ev_fld (ev_var rfl) (e04 _ _ h3) T.c_StepTokens T.n_StepTokens_label rfl) ev_c rv_noN) (congrArg (fun b => V.bl (!b)) (opt_non hlab4)))) (b := false) fun hsome => ?_) b1) (fun hb => absurd hb (by decide)) (fun _ H5 e5 => ?_)
      · obtain ⟨t, et⟩ : ∃ t, s.label = some t := by
          cases q : s.label with
          | none => rw [q] at hsome; cases hsome
          | some t => exact ⟨t, rfl⟩
        rw [et] at hlab4
        obtain ⟨ta, tdx, rfl, hta⟩ := hlab4
        have own := hV.own i s t hs et
        refine et_test (ev_is (ev_op (ev_dget (v := .int (i : Int)) (z := t.text) (ev_var rfl) (ev_fld (ev_fld (ev_var rfl) (e04 _ _ h3) T.c_StepTokens T.n_StepTokens_label rfl) hta T.c_Token T.n_Token_text rfl) (e4 _ _ hd3) ?_) (ev_var rfl) rv_I0) (congrArg V.bl (decide_eq_false (Int.lt_irrefl _))))
        rw [firstLabs_val, own]
        rfl
      have e05 := e04.trans e5
      have htg5 := ht.es (ES.of e05)
      have b2 : (!s.target.isNone && false) = false := by cases s.target.isNone <;> rfl
      refine s_when (b := false) (et_is (et_and (et_test (ev_is (ev_op (ev_fld (ev_var rfl) (e05 _ _ h3) T.c_StepTokens T.n_StepTokens_target rfl) ev_c rv_noN) (congrArg (fun b => V.bl (!b)) (opt_non htg5)))) (b := false) fun hsome => ?_) b2) (fun hb => absurd hb (by decide)) (fun _ H6 e6 => ⟨_, _, rfl, ((e3.trans e4).trans e5).trans e6⟩)
      obtain ⟨t, et⟩ : ∃ t, s.target = some t := by
        cases q : s.target with
        | none => rw [q] at hsome; cases hsome
        | some t => exact ⟨t, rfl⟩
      rw [et] at htg5
      obtain ⟨ta, tdx, rfl, hta⟩ := htg5
      obtain ⟨n, hn⟩ := hV.tgt s t (List.mem_of_getElem? hs) et
      refine et_is (et_test (ev_dnin (z := t.text) (ev_fld (ev_fld (ev_var rfl) (e05 _ _ h3) T.c_StepTokens T.n_StepTokens_target rfl) hta T.c_Token T.n_Token_text rfl) (ev_var rfl) ((e4.trans e5) _ _ hd3))) ?_
      rw [firstLabs_val, hn]
      rfl
    · rintro σ' H' ⟨x, y, rfl, e3⟩
      refine s_ret (ev_var rfl) fun H4 e4 => k p H4 hp ((e12.trans e3).trans e4) ((e2.trans (e3.trans e4)) _ _ h1)

theorem ok_shelf_faults (T : Txt K mg) : FnR P w K mg base (L2.CX P w) 1 (He.ga K "shelf_faults") (spPlF K) := by
  obtain ⟨fd, F⟩ := T.F_shelf_faults
  have B : Binds K fd P_shelf_faults [] := F.bindsN fun _ _ _ _ _ _ us hl => match us, hl with | [_], _ => rfl
  refine fnR_of F B (F.ok sc_shelf_faults (fun vs H Q E h => ?_) (fun cdv A outer s H vs Q E hr h => ?_))
  · obtain ⟨v, p, bx, a, b, r0, r1, rfl, _⟩ := h
    rfl
  · have hu := hu_of hr
    obtain ⟨v, pl, bx, a, b, r0, r1, rfl, hs, hV, k⟩ := h
    refine ⟨_, (pss_cons (ps_set (i := 1) sc_shelf_faults.nd rfl (Or.inl rfl) (pe_lst pa_nil))
        (pss_cons (ps_if (pt_cmpR op_lt (pe_callB call_len_seq (by rfl) T.b_len (by decide +kernel) (pa_cons (pe_fld (pv 0) rfl) pa_nil)) (pe_gi T.v_FEWEST_CELLS) (nomark _)) (pss_one ps_never) pss_nil)
        (pss_cons (ps_if (pt_cmpR op_gt (pe_callB call_len_seq (by rfl) T.b_len (by decide +kernel) (pa_cons (pe_fld (pv 0) rfl) pa_nil)) (pe_gi T.v_MOST_CELLS) (nomark _)) (pss_one ps_never) pss_nil)
        (pss_cons (ps_for (passes_of rfl) rfl (pi_list (pe_fld (pv 0) rfl)) (pg_name (i := 2) sc_shelf_faults.nd rfl (Or.inl rfl)) (pss_one (ps_if (pt_cmpR op_gt (pe_callTy call_int_str (by rfl) T.b_int (by decide +kernel) (pa_cons (pe_fld (pv 2) rfl) pa_nil)) (pe_gi T.v_MOST_BOXES) (nomark _)) (pss_one ps_never) pss_nil)))
        (pss_one (ps_ret (pv 1))))))), ?_⟩
    obtain ⟨pa, pdx, kv, na, ns, ra, rs, rfl, h0, hk, hn, hN, hr, hR⟩ := hs
    have hlen := hN.len
    have hnl := pt_nums hV
    have hlo := hV.lo
    have hhi := hV.hi
    refine q_asgL (el_lst ea_nil (by decide)) fun p H1 hp e1 h1 => ?_
    refine q_when (b := false) (et_test (ev_is (ev_op (ev_len (xs := ns) (ev_fld (ev_var rfl) (e1 _ _ h0) T.c_PlanTokens T.n_PlanTokens_numbers rfl) (sq_of (e1 _ _ hn))) ev_c rv_I0) (congrArg V.bl (decide_eq_false (by omega))))) (fun hb => absurd hb (by decide)) (fun _ H2 e2 => ?_)
    have e12 := e1.trans e2
    refine q_when (b := false) (et_test (ev_is (ev_op (ev_len (xs := ns) (ev_fld (ev_var rfl) (e12 _ _ h0) T.c_PlanTokens T.n_PlanTokens_numbers rfl) (sq_of (e12 _ _ hn))) ev_c rv_I0) (congrArg V.bl (decide_eq_false (by omega))))) (fun hb => absurd hb (by decide)) (fun _ H3 e3 => ?_)
    have e13 := e12.trans e3
    refine q_forLn (xs := ns) (ev_fld (ev_var rfl) (e13 _ _ h0) T.c_PlanTokens T.n_PlanTokens_numbers rfl) (sq_of (e13 _ _ hn)) (fun i σ' H' => ∃ (x : Option V), σ' = [some (.ref pa), some (.ref p), x] ∧ Ex H3 H') (fun H4 e4 => ⟨none, rfl, e4⟩) (fun i σ' H' _ ⟨_, _, e⟩ => sq_of (e _ _ (e13 _ _ hn))) ?_ ?_
    · rintro i v σ' H' hv ⟨x, rfl, e4⟩
      obtain ⟨t, ht, ta, tdx, rfl, hta⟩ := hN.getV hv
      obtain ⟨n, hbn, htx, hn3⟩ := num_at hV ht
      have hta' := (e13.trans e4) _ _ hta
      refine s_when (b := false) (et_test (ev_is (ev_op (ev_intS (n := n) (ev_fld (ev_var rfl) hta' T.c_Token T.n_Token_text rfl) (by rw [htx]; exact numS_int (by omega)) (by rw [htx]; have := numS_len (n := n) (by omega); omega)) ev_c rv_I0) (congrArg V.bl (decide_eq_false (by omega))))) (fun hb => absurd hb (by decide)) (fun _ H5 e5 => ⟨_, rfl, e4.trans e5⟩)
    · rintro σ' H' ⟨x, rfl, e4⟩
      exact s_ret (ev_var rfl) fun H5 e5 => k p H5 hp ((e13.trans e4).trans e5) ((((e2.trans e3).trans e4).trans e5) _ _ h1)


/-- the two robots of a plan that is right, as they stand -/
theorem robs_at {K : PySem.W.Frag} {H : Hp} {p : PlanM} {bx : List Nat} {a b : Nat} {r0 r1 : RobM} {rs : List V} (hV : ValidP p bx a b r0 r1) (h : All (RobAt K H) rs p.robots) :
    ∃ a0 d0 s0 q0 w0 a1 d1 s1 q1 w1 t0 t1, rs = [.ref a0, .ref a1] ∧ H a0 = some (.ins (He.ga K "RobotTokens") d0 [("start", .ref t0), ("steps", .ref q0)]) ∧ H t0 = some (.ins (He.ga K "Token") s0 (tkF r0.start)) ∧ H q0 = some (.lst w0) ∧ All (StepAt K H) w0 r0.steps ∧
      H a1 = some (.ins (He.ga K "RobotTokens") d1 [("start", .ref t1), ("steps", .ref q1)]) ∧ H t1 = some (.ins (He.ga K "Token") s1 (tkF r1.start)) ∧ H q1 = some (.lst w1) ∧ All (StepAt K H) w1 r1.steps := by
  rw [hV.rob] at h
  cases h with
  | cons h1 h =>
    cases h with
    | cons h2 h =>
      cases h
      obtain ⟨a0, d0, sv0, q0, w0, rfl, x1, ⟨t0, s0, rfl, x2⟩, x3, x4⟩ := h1
      obtain ⟨a1, d1, sv1, q1, w1, rfl, y1, ⟨t1, s1, rfl, y2⟩, y3, y4⟩ := h2
      exact ⟨a0, d0, s0, q0, w0, a1, d1, s1, q1, w1, t0, t1, rfl, x1, x2, x3, x4, y1, y2, y3, y4⟩
theorem numS_inj {a b : Nat} (ha : a < 100) (hb : b < 100) (h : numS a = numS b) : a = b := by
  have e := congrArg PySem.intText? h
  rw [numS_int ha, numS_int hb] at e
  exact Int.ofNat.inj (Option.some.inj e)

theorem ok_start_faults (T : Txt K mg) : FnR P w K mg base (L2.CX P w) 1 (He.ga K "start_faults") (spPlF K) := by
  obtain ⟨fd, F⟩ := T.F_start_faults
  have B : Binds K fd P_start_faults [] := F.bindsN fun _ _ _ _ _ _ us hl => match us, hl with | [_], _ => rfl
  refine fnR_of F B (F.ok sc_start_faults (fun vs H Q E h => ?_) (fun cdv A outer s H vs Q E hr h => ?_))
  · obtain ⟨v, p, bx, a, b, r0, r1, rfl, _⟩ := h
    rfl
  · have hu := hu_of hr
    obtain ⟨v, pl, bx, a, b, r0, r1, rfl, hs, hV, k⟩ := h
    refine ⟨_, (pss_cons (ps_set (i := 1) sc_start_faults.nd rfl (Or.inl rfl) (pe_lst pa_nil))
        (pss_cons (ps_asg (pe_lc (te := tFld K (tVar 5) "start") (own := [("robot", 5)]) rfl sc_start_faults.nd (pi_list (pe_fld (pv 0) rfl)) (blkOk_by (own := [("robot", 5)]) (N := N_start_faults) (sc := defScope s_start_faults) (by decide +kernel)) (fun _ _ _ _ _ => by exact pg_name (i := 5) sc_start_faults.nd rfl (Or.inl rfl)) (fun _ _ _ _ _ => by exact pts_nil) (fun _ _ _ _ _ => by exact (pe_fld (pv 5) rfl))) (pg_unl rfl (pgs_cons (pg_name (i := 2) sc_start_faults.nd rfl (Or.inl rfl)) (pgs_cons (pg_name (i := 3) sc_start_faults.nd rfl (Or.inl rfl)) pgs_nil))))
        (pss_cons (ps_for (passes_of rfl) rfl (pi_tup (pe_tup (pa_cons (pv 2) (pa_cons (pv 3) pa_nil)))) (pg_name (i := 4) sc_start_faults.nd rfl (Or.inl rfl)) (pss_one (ps_if (pt_cmpR op_ge (pe_callTy call_int_str (by rfl) T.b_int (by decide +kernel) (pa_cons (pe_fld (pv 4) rfl) pa_nil)) (pe_callB call_len_seq (by rfl) T.b_len (by decide +kernel) (pa_cons (pe_fld (pv 0) rfl) pa_nil)) (nomark _)) (pss_one ps_never) pss_nil)))
        (pss_cons (ps_if (pt_cmpR op_eq (pe_fld (pv 2) rfl) (pe_fld (pv 3) rfl) (nomark _)) (pss_one ps_never) pss_nil)
        (pss_one (ps_ret (pv 1))))))), ?_⟩
    obtain ⟨pa, pdx, kv, na, ns, ra, rs, rfl, h0, hk, hn, hN, hr, hR⟩ := hs
    obtain ⟨a0, d0, s0, q0, w0, a1, d1, s1, q1, w1, t0, t1, rfl, x1, x2, x3, x4, y1, y2, y3, y4⟩ := robs_at hV hR
    have hlen := hN.len
    have hnl := pt_nums hV
    have hhi := hV.hi
    have hla := hV.la
    have hlb := hV.lb
    refine q_asgL (el_lst ea_nil (by decide)) fun p H1 hp e1 h1 => ?_
    refine q_unl2 (x := .ref t0) (y := .ref t1) (el_lcL (xs := [.ref a0, .ref a1]) (fun _ => true) (fun i => if i = 0 then V.ref t0 else V.ref t1) (ev_fld (ev_var rfl) (e1 _ _ h0) T.c_PlanTokens T.n_PlanTokens_robots rfl) (sq_of (e1 _ _ hr)) (by show 2 ≤ 40000; decide) (fun _ => rfl) (fun _ _ _ _ _ => et_yes) fun i x H2 e2 hx _ => ?_) rfl fun H2 e2 => ?_
    · match i, hx with
      | 0, hx =>
        obtain rfl : V.ref a0 = x := Option.some.inj hx
        exact ev_fld (ev_var rfl) ((e1.trans e2) _ _ x1) T.c_RobotTokens T.n_RobotTokens_start rfl
      | 1, hx =>
        obtain rfl : V.ref a1 = x := Option.some.inj hx
        exact ev_fld (ev_var rfl) ((e1.trans e2) _ _ y1) T.c_RobotTokens T.n_RobotTokens_start rfl
      | i + 2, hx => simp at hx
    have e12 := e1.trans e2
    have one : ∀ (t s : Addr) (st : Tk) (n : Nat) (σ' : L2.St) (D : L2.Ends) (H' : Hp), Ex H2 H' → n < bx.length → st.text = numS n → H t = some (.ins (He.ga K "Token") s (tkF st)) → σ'[0]? = some (some (.ref pa)) → σ'[4]? = some (some (.ref t)) → (∀ H4, Ex H' H4 → D.nx σ' H4) →
        tIfS (tTest (tOp (rI0 fun i j => V.bl (decide (j ≤ i))) (tCB (fun xs H Q => ∃ a n, xs = [V.str a] ∧ PySem.intText? a = some n ∧ a.length ≤ 640 ∧ Q (V.int n) H) (tCons (tFld K (tVar 4) "text") tNil)) (tCB (rLenS K) (tCons (tFld K (tVar 0) "numbers") tNil)))) (fun _ _ _ => False) tNext D σ' H' := by
      intro t s st n σ' D H' e3 hn' htx ht hv0 hv4 kk
      have e03 := e12.trans e3
      refine s_when (b := false) (et_test (ev_is (ev_op (ev_intS (n := n) (ev_fld (ev_var hv4) (e03 _ _ ht) T.c_Token T.n_Token_text rfl) (by rw [htx]; exact numS_int (by omega)) (by rw [htx]; have := numS_len (n := n) (by omega); omega)) (ev_len (xs := ns) (ev_fld (ev_var hv0) (e03 _ _ h0) T.c_PlanTokens T.n_PlanTokens_numbers rfl) (sq_of (e03 _ _ hn))) rv_I0) (congrArg V.bl (decide_eq_false (by omega))))) (fun hb => absurd hb (by decide)) (fun _ H4 e4 => kk H4 e4)
    refine q_forNU (xs := [.ref t0, .ref t1]) (eu_tup (ea_cons (ev_var rfl) (ea_cons (ev_var rfl) ea_nil)) (by show 2 ≤ 100000; decide)) (fun q i σ' H' => ∃ (x : Option V), σ' = [some (.ref pa), some (.ref p), some (.ref t0), some (.ref t1), x, none] ∧ Ex H2 H' ∧ H' q = some (.tup [.ref t0, .ref t1])) (fun q H3 hq e3 h3 => ⟨none, rfl, e3, h3⟩) (fun q i σ' H' _ ⟨_, _, _, h⟩ => st_of h) ?_ ?_
    · rintro q i v σ' H' hv ⟨x, rfl, e3, h3⟩
      match i, hv with
      | 0, hv =>
        obtain rfl : V.ref t0 = v := Option.some.inj hv
        exact one t0 s0 r0.start a _ _ H' e3 hla hV.sa x2 rfl rfl fun H4 e4 => ⟨_, rfl, e3.trans e4, e4 _ _ h3⟩
      | 1, hv =>
        obtain rfl : V.ref t1 = v := Option.some.inj hv
        exact one t1 s1 r1.start b _ _ H' e3 hlb hV.sb y2 rfl rfl fun H4 e4 => ⟨_, rfl, e3.trans e4, e4 _ _ h3⟩
      | i + 2, hv => simp at hv
    · rintro q σ' H' ⟨x, rfl, e3, h3⟩
      have e03 := e12.trans e3
      refine q_when (b := false) (et_test (ev_is (ev_op (ev_fld (ev_var rfl) (e03 _ _ x2) T.c_Token T.n_Token_text rfl) (ev_fld (ev_var rfl) (e03 _ _ y2) T.c_Token T.n_Token_text rfl) (rv_eq rfl)) ?_)) (fun hb => absurd hb (by decide)) (fun _ H5 e5 => ?_)
      · rw [str_eq]
        refine congrArg V.bl (decide_eq_false fun he => hV.ab ?_)
        rw [hV.sa, hV.sb] at he
        exact numS_inj (by omega) (by omega) he
      · exact s_ret (ev_var rfl) fun H6 e6 => k p H6 hp ((e03.trans e5).trans e6) ((((e2.trans e3).trans e5).trans e6) _ _ h1)

theorem ok_check_plan (T : Txt K mg) : FnR P w K mg base (L2.CX P w) 3 (He.ga K "check_plan") (spCk K) := by
  have G_shelf_faults := ok_shelf_faults (P := P) (w := w) (base := base) T
  have KP_shelf_faults : PySem.W.keepIn K (.ref (He.ga K "shelf_faults")) = true := by
    obtain ⟨_, F⟩ := T.F_shelf_faults
    exact F.kp
  have G_start_faults := ok_start_faults (P := P) (w := w) (base := base) T
  have KP_start_faults : PySem.W.keepIn K (.ref (He.ga K "start_faults")) = true := by
    obtain ⟨_, F⟩ := T.F_start_faults
    exact F.kp
  have G_step_faults := ok_step_faults (P := P) (w := w) (base := base) T
  have KP_step_faults : PySem.W.keepIn K (.ref (He.ga K "step_faults")) = true := by
    obtain ⟨_, F⟩ := T.F_step_faults
    exact F.kp
  obtain ⟨fd, F⟩ := T.F_check_plan
  have B : Binds K fd P_check_plan [] := F.bindsN fun _ _ _ _ _ _ us hl => match us, hl with | [_], _ => rfl
  refine fnR_of F B (F.ok sc_check_plan (fun vs H Q E h => ?_) (fun cdv A outer s H vs Q E hr h => ?_))
  · obtain ⟨v, p, bx, a, b, r0, r1, rfl, _⟩ := h
    rfl
  · have hu := hu_of hr
    obtain ⟨v, pl, bx, a, b, r0, r1, rfl, hs, hV, k⟩ := h
    refine ⟨_, (pss_cons (ps_set (i := 1) sc_check_plan.nd rfl (Or.inl rfl) (pe_op op_cat (pe_callR G_shelf_faults (hr.mono (by decide)) T.g_shelf_faults KP_shelf_faults px (pa_cons (pv 0) pa_nil)) (pe_callR G_start_faults (hr.mono (by decide)) T.g_start_faults KP_start_faults px (pa_cons (pv 0) pa_nil))))
        (pss_cons (ps_for (passes_of rfl) rfl (pi_list (pe_fld (pv 0) rfl)) (pg_name (i := 2) sc_check_plan.nd rfl (Or.inl rfl)) (pss_one (ps_expr (pe_bm PySem.F.plainAttrs_list PySem.F.slot_list_extend PySem.F.type_list_extend mt_extend (pv 1) (pa_cons (pe_callR G_step_faults (hr.mono (by decide)) T.g_step_faults KP_step_faults px (pa_cons (pe_fld (pv 2) rfl) pa_nil)) pa_nil)))))
        (pss_one (ps_if (pt_truth (pv 1) (by intro _; rfl)) (pss_cons ps_never
        (pss_one ps_never)) pss_nil)))), ?_⟩
    have hs0 := hs
    obtain ⟨pa, pdx, kv, na, ns, ra, rs, rfl, h0, hk, hn, hN, hr0, hR⟩ := hs
    obtain ⟨a0, d0, s0, q0, w0, a1, d1, s1, q1, w1, t0, t1, rfl, x1, x2, x3, x4, y1, y2, y3, y4⟩ := robs_at hV hR
    refine q_setH ⟨_, rfl, _, pl, bx, a, b, r0, r1, rfl, hs0, hV, fun l H1 hl e1 h1 => ?_⟩
    refine ⟨_, rfl, _, pl, bx, a, b, r0, r1, rfl, hs0.ex e1, hV, fun l2 H2 hl2 e2 h2 => ?_⟩
    refine ⟨l, l2, [], [], rfl, rfl, e2 _ _ h1, h2, by decide, fun q hq => ?_⟩
    have e02 := e1.trans e2
    have nq : H q = none := fresh_back e02 hq
    have e3 : Ex H (upd H2 q (.lst [])) := e02.trans (Ex.new hq)
    refine q_forLn (xs := [.ref a0, .ref a1]) (ev_fld (ev_var rfl) (e3 _ _ h0) T.c_PlanTokens T.n_PlanTokens_robots rfl) (sq_of (e3 _ _ hr0)) (fun i σ' H' => ∃ (x : Option V), σ' = [some (.ref pa), some (.ref q), x, none, none, none] ∧ Ex H H' ∧ H' q = some (.lst []))
      (fun H4 e4 => ⟨none, rfl, e3.trans e4, e4 _ _ upd_same⟩) (fun i σ' H' _ ⟨_, _, e, _⟩ => sq_of (e _ _ hr0)) ?_ ?_
    · rintro i v σ' H' hv ⟨x, rfl, e4, h4⟩
      obtain ⟨ar, dr, qr, sv, w, ss, rfl, z1, z2, z3, z4⟩ : ∃ (ar dr qr : Addr) (sv : V) (w : List V) (ss : List StepM), v = .ref ar ∧ H ar = some (.ins (He.ga K "RobotTokens") dr [("start", sv), ("steps", .ref qr)]) ∧ H qr = some (.lst w) ∧ All (StepAt K H) w ss ∧ ValidS ss := by
        match i, hv with
        | 0, hv => exact ⟨a0, d0, q0, .ref t0, w0, r0.steps, (Option.some.inj hv).symm, x1, x3, x4, hV.v0⟩
        | 1, hv => exact ⟨a1, d1, q1, .ref t1, w1, r1.steps, (Option.some.inj hv).symm, y1, y3, y4, hV.v1⟩
        | i + 2, hv => simp at hv
      refine s_extP (P := fun v H' => ∃ b, v = .ref b ∧ H' b = some (.lst [])) h4 (ev_var rfl) (ep_callR (ea_cons (ev_fld (ev_var rfl) (e4 _ _ z1) T.c_RobotTokens T.n_RobotTokens_steps rfl) ea_nil) fun H5 e5 Q5 q5 => ⟨_, ss, rfl, ⟨qr, w, rfl, (e4.trans e5) _ _ z2, z3.imp fun v x r => r.es (ES.of (e4.trans e5))⟩, z4, fun b H6 hb e6 h6 => q5 _ H6 e6 ⟨b, rfl, h6⟩⟩) fun v H6 e6 hv6 => ?_
      obtain ⟨b, rfl, hb⟩ := hv6
      exact ⟨b, [], rfl, hb, by decide, _, rfl, Ex.mut (e4.trans e6) nq, upd_same⟩
    · rintro σ' H' ⟨x, rfl, e4, h4⟩
      refine s_when (b := false) (et_tru (ev_var rfl) fun H5 e5 => Or.inl ⟨[], sq_of (e5 _ _ h4), rfl⟩) (fun hb => absurd hb (by decide)) (fun _ H5 e5 => ?_)
      exact k H5 (e4.trans e5)


def lkV : Option Nat → V
  | none => .non
  | some n => .int n
/-- a step that is linked: a pair of its word and the place to which it leads -/
def LkAt (H : Hp) (v : V) (s : Lk) : Prop := ∃ a, v = .ref a ∧ H a = some (.tup [.str s.1, lkV s.2])
theorem LkAt.ex {H H' : Hp} {v : V} {s : Lk} (e : Ex H H') (h : LkAt H v s) : LkAt H' v s := by
  obtain ⟨a, rfl, h⟩ := h
  exact ⟨a, rfl, e _ _ h⟩
theorem LkAt.put {H : Hp} {v : V} {s : Lk} {p : Addr} {xs ys : List V} (hp : H p = some (.lst xs)) (h : LkAt H v s) : LkAt (upd H p (.lst ys)) v s := by
  obtain ⟨a, rfl, h⟩ := h
  refine ⟨a, rfl, ?_⟩
  rw [upd_ne (ne_of h hp (by intro z; cases z))]
  exact h
def spLk (K : PySem.W.Frag) : Sp := fun vs H Q _ => ∃ v ss, vs = [v] ∧ StepsAt K H v ss ∧ ValidS ss ∧ ∀ p H' ws, H p = none → Ex H H' → H' p = some (.lst ws) → All (LkAt H') ws (linked ss) → Q (.ref p) H'

theorem ok_linked_steps (T : Txt K mg) : FnR P w K mg base (L2.CX P w) 2 (He.ga K "linked_steps") (spLk K) := by
  have G_first_labels := ok_first_labels (P := P) (w := w) (base := base) T
  have KP_first_labels : PySem.W.keepIn K (.ref (He.ga K "first_labels")) = true := by
    obtain ⟨_, F⟩ := T.F_first_labels
    exact F.kp
  obtain ⟨fd, F⟩ := T.F_linked_steps
  have B : Binds K fd P_linked_steps [] := F.bindsN fun _ _ _ _ _ _ us hl => match us, hl with | [_], _ => rfl
  refine fnR_of F B (F.ok sc_linked_steps (fun vs H Q E h => ?_) (fun cdv A outer s H vs Q E hr h => ?_))
  · obtain ⟨v, ss, rfl, _⟩ := h
    rfl
  · have hu := hu_of hr
    obtain ⟨v, ss, rfl, hs, hV, k⟩ := h
    refine ⟨_, (pss_cons (ps_set (i := 1) sc_linked_steps.nd rfl (Or.inl rfl) (pe_callR G_first_labels (hr.mono (by decide)) T.g_first_labels KP_first_labels px (pa_cons (pv 0) pa_nil)))
        (pss_cons (ps_set (i := 2) sc_linked_steps.nd rfl (Or.inl rfl) (pe_lst pa_nil))
        (pss_cons (ps_for (passes_of rfl) rfl (pi_list (pv 0)) (pg_name (i := 3) sc_linked_steps.nd rfl (Or.inl rfl)) (pss_cons (ps_set (i := 4) sc_linked_steps.nd rfl (Or.inl rfl) (pe_ifExp (pt_cmpR op_isN (pe_fld (pv 3) rfl) pe_non (nomark _)) pe_non (pe_dget hu (pv 1) (pe_fld (pe_fld (pv 3) rfl) rfl) (fun _ _ => rfl))))
        (pss_one (ps_expr (pe_bm PySem.F.plainAttrs_list PySem.F.slot_list_append PySem.F.type_list_append mt_append (pv 2) (pa_cons (pe_tup (pa_cons (pe_fld (pe_fld (pv 3) rfl) rfl) (pa_cons (pv 4) pa_nil))) pa_nil))))))
        (pss_one (ps_ret (pv 2)))))), ?_⟩
    obtain ⟨a, ws, rfl, hl, hA⟩ := hs
    have hlen := hA.len
    have h20 := hV.len
    have bl : 100 < sizeLine := by decide
    refine q_setH ⟨_, rfl, .ref a, ss, rfl, ⟨a, ws, rfl, hl, hA⟩, by omega, fun d H1 hd e1 h1 => ?_⟩
    refine q_asgL (el_lst ea_nil (by decide)) fun p H2 hp2 e2 h2 => ?_
    have e02 := e1.trans e2
    have hp : H p = none := fresh_back e1 hp2
    refine q_forLn (xs := ws) (ev_var rfl) (sq_of (e02 _ _ hl)) (fun i σ' H' => ∃ (x y : Option V) (us : List V), σ' = [some (.ref a), some (.ref d), some (.ref p), x, y] ∧ Ex H H' ∧ H' d = some (.dK (firstLabs ss)) ∧ H' p = some (.lst us) ∧ All (LkAt H') us ((linked ss).take i))
      (fun H3 e3 => ⟨none, none, [], rfl, e02.trans e3, (e2.trans e3) _ _ h1, e3 _ _ h2, .nil⟩) (fun i σ' H' _ ⟨_, _, _, _, e, _⟩ => sq_of (e _ _ hl)) ?_ ?_
    · rintro i v σ' H' hv ⟨x, y, us, rfl, e3, h3, h4, h5⟩
      obtain ⟨s, hs, sa, sdx, lv, cv, tv, rfl, z1, hlab, hc, ht⟩ := hA.getV hv
      have ht3 := ht.es (ES.of e3)
      have hc3 := hc.mono e3
      have hsi : (linked ss)[i]? = some (linkOf ss s) := by
        unfold linked
        rw [List.getElem?_map, hs]
        rfl
      have hik : i < ss.length := (List.getElem?_eq_some_iff.mp hs).1
      have hul := h5.len
      rw [List.length_take] at hul
      refine q_asg (v := lkV (linkOf ss s).2) (ev_if (b := s.target.isNone) (et_test (ev_is (ev_op (ev_fld (ev_var rfl) (e3 _ _ z1) T.c_StepTokens T.n_StepTokens_target rfl) ev_c rv_isN) (congrArg V.bl (opt_non ht3)))) (fun hb => ?_) (fun hb => ?_)) fun H4 e4 => ?_
      · have : s.target = none := by
          cases q : s.target with
          | none => rfl
          | some t => rw [q] at hb; cases hb
        refine ev_is ev_c ?_
        unfold linkOf
        rw [this]
        rfl
      · obtain ⟨t, et⟩ : ∃ t, s.target = some t := by
          cases q : s.target with
          | none => rw [q] at hb; cases hb
          | some t => exact ⟨t, rfl⟩
        rw [et] at ht3
        obtain ⟨ta, tdx, rfl, hta⟩ := ht3
        obtain ⟨n, hn⟩ := hV.tgt s t (List.mem_of_getElem? hs) et
        refine ev_dget (z := t.text) (ev_var rfl) (ev_fld (ev_fld (ev_var rfl) (e3 _ _ z1) T.c_StepTokens T.n_StepTokens_target rfl) hta T.c_Token T.n_Token_text rfl) h3 ?_
        rw [firstLabs_val, hn]
        unfold linkOf
        rw [et]
        show some (V.int n) = some (lkV (labIx ss t.text 0))
        rw [hn]
        rfl
      have e34 := e3.trans e4
      have hc4 := hc3.mono e4
      obtain ⟨ca, cdx, rfl, hca⟩ := hc4
      refine s_appU (ys := [.str s.command.text, lkV (linkOf ss s).2]) (e4 _ _ h4) (ev_var rfl) (eu_tup (ea_cons (ev_fld (ev_fld (ev_var rfl) (e34 _ _ z1) T.c_StepTokens T.n_StepTokens_command rfl) hca T.c_Token T.n_Token_text rfl) (ea_cons (ev_var rfl) ea_nil)) (by show 2 ≤ 100000; decide)) (by omega) fun t H5 ht5 e5 h5' => ?_
      have hp5 := (e4.trans e5) _ _ h4
      refine ⟨_, _, us ++ [.ref t], rfl, Ex.mut (e34.trans e5) hp, ?_, upd_same, ?_⟩
      · rw [upd_ne (ne_of ((e4.trans e5) _ _ h3) hp5 (by intro z; cases z))]
        exact (e4.trans e5) _ _ h3
      · rw [take_more hsi]
        exact All.app (h5.imp fun v x r => (r.ex (e4.trans e5)).put hp5) (.cons (LkAt.put hp5 ⟨t, rfl, h5'⟩) .nil)
    · rintro σ' H' ⟨x, y, us, rfl, e3, h3, h4, h5⟩
      rw [List.take_of_length_le (by unfold linked; rw [List.length_map, hlen]; exact Nat.le_refl _)] at h5
      exact s_ret (ev_var rfl) fun H4 e4 => k p H4 us hp (e3.trans e4) (e4 _ _ h4) (h5.imp fun v x r => r.ex e4)

end SB

set_option maxHeartbeats 4000000
namespace SB
open PySem PySem.Spec PyProof.Rows L2
open TL (tl)
open Evl
variable {P : Program} {w : World} {K : PySem.W.Frag} {mg : Str → Option Value} {base : Heap}


/-- a plan that was read -/
structure Plm where
  bx : List Nat
  a : Nat
  b : Nat
  l0 : List Lk
  l1 : List Lk
structure PlIn (K : PySem.W.Frag) (H : Hp) (x dx bl ft st s0 s1 : Addr) (w0 w1 : List V) (P : Plm) : Prop where
  ob : H x = some (.ins (He.ga K "Plan") dx [("boxes", .ref bl), ("first_cells", .ref ft), ("steps", .ref st)])
  bxs : H bl = some (.lst (P.bx.map fun (n : Nat) => V.int n))
  fc : H ft = some (.tup [.int P.a, .int P.b])
  ss : H st = some (.tup [.ref s0, .ref s1])
  h0 : H s0 = some (.lst w0)
  h1 : H s1 = some (.lst w1)
  k0 : All (LkAt H) w0 P.l0
  k1 : All (LkAt H) w1 P.l1
theorem PlIn.ex {K : PySem.W.Frag} {H H' : Hp} {x dx bl ft st s0 s1 : Addr} {w0 w1 : List V} {P : Plm} (h : PlIn K H x dx bl ft st s0 s1 w0 w1 P) (e : Ex H H') : PlIn K H' x dx bl ft st s0 s1 w0 w1 P :=
  ⟨e _ _ h.ob, e _ _ h.bxs, e _ _ h.fc, e _ _ h.ss, e _ _ h.h0, e _ _ h.h1, h.k0.imp fun v x r => r.ex e, h.k1.imp fun v x r => r.ex e⟩
def PlOb (K : PySem.W.Frag) (H : Hp) (v : V) (P : Plm) : Prop := ∃ x dx bl ft st s0 s1 w0 w1, v = .ref x ∧ PlIn K H x dx bl ft st s0 s1 w0 w1 P
theorem PlOb.ex {K : PySem.W.Frag} {H H' : Hp} {v : V} {P : Plm} (e : Ex H H') (h : PlOb K H v P) : PlOb K H' v P := by
  obtain ⟨x, dx, bl, ft, st, s0, s1, w0, w1, rfl, h⟩ := h
  exact ⟨x, dx, bl, ft, st, s0, s1, w0, w1, rfl, h.ex e⟩
/-- the text z is that of the plan P, which follows all rules -/
def Reads (z : Str) (P : Plm) : Prop := z.length + 10 ≤ big ∧ ∃ p r0 r1, parse z = .ok p ∧ ValidP p P.bx P.a P.b r0 r1 ∧ P.l0 = linked r0.steps ∧ P.l1 = linked r1.steps
def spLP (K : PySem.W.Frag) : Sp := fun vs H Q _ => ∃ (v : V) (p : PlanM) (Pl : Plm) (r0 r1 : RobM), vs = [v] ∧ PlanAt K H v p ∧ ValidP p Pl.bx Pl.a Pl.b r0 r1 ∧ Pl.l0 = linked r0.steps ∧ Pl.l1 = linked r1.steps ∧ ∀ v H', Ex H H' → PlOb K H' v Pl → Q v H'
def spRead (K : PySem.W.Frag) : Sp := fun vs H Q _ => ∃ z P, vs = [.str z] ∧ Reads z P ∧ ∀ v H', Ex H H' → PlOb K H' v P → Q v H'
theorem given_all {n : Nat} {v : Nat → V} {xs : List V} (hl : xs.length = n) (h : ∀ (i : Nat) x, xs[i]? = some x → v i = x) : given n (fun _ => true) v = xs := by
  unfold given
  rw [List.filter_eq_self.mpr (fun _ _ => rfl)]
  apply List.ext_getElem?
  intro i
  rw [List.getElem?_map]
  by_cases hi : i < n
  · rw [List.getElem?_range hi]
    have hx : i < xs.length := by omega
    rw [List.getElem?_eq_getElem hx]
    exact congrArg some (h i _ (List.getElem?_eq_getElem hx))
  · rw [List.getElem?_eq_none (by rw [List.length_range]; omega), List.getElem?_eq_none (by omega)]
    rfl

theorem ok_linked_plan (T : Txt K mg) : FnR P w K mg base (L2.CX P w) 3 (He.ga K "linked_plan") (spLP K) := by
  have G_Plan_init := ok_Plan_init (P := P) (w := w) (base := base) T
  have G_linked_steps := ok_linked_steps (P := P) (w := w) (base := base) T
  have KP_linked_steps : PySem.W.keepIn K (.ref (He.ga K "linked_steps")) = true := by
    obtain ⟨_, F⟩ := T.F_linked_steps
    exact F.kp
  obtain ⟨fd, F⟩ := T.F_linked_plan
  have B : Binds K fd P_linked_plan [] := F.bindsN fun _ _ _ _ _ _ us hl => match us, hl with | [_], _ => rfl
  refine fnR_of F B (F.ok sc_linked_plan (fun vs H Q E h => ?_) (fun cdv A outer s H vs Q E hr h => ?_))
  · obtain ⟨v, p, Pl, r0, r1, rfl, _⟩ := h
    rfl
  · have hu := hu_of hr
    obtain ⟨v, p, Pl, r0, r1, rfl, hv, hV, hl0, hl1, k⟩ := h
    refine ⟨_, (pss_cons (ps_setLc (i := 1) (te := tCB (fun xs H Q => ∃ a n, xs = [V.str a] ∧ PySem.intText? a = some n ∧ a.length ≤ 640 ∧ Q (V.int n) H) (tCons (tFld K (tVar 4) "text") tNil)) (own := [("number", 4)]) rfl sc_linked_plan.nd rfl rfl (sw_true rfl rfl rfl (by decide +kernel)) (pi_list (pe_fld (pv 0) rfl)) (blkOk_by (own := [("number", 4)]) (N := N_linked_plan) (sc := defScope s_linked_plan) (by decide +kernel)) (fun _ _ _ _ _ => by exact pg_name (i := 4) sc_linked_plan.nd rfl (Or.inl rfl)) (fun _ _ _ _ _ => by exact pts_nil) (fun _ _ _ _ _ => by exact (pe_callTy call_int_str (by rfl) T.b_int (by decide +kernel) (pa_cons (pe_fld (pv 4) rfl) pa_nil))))
        (pss_cons (ps_set (i := 2) sc_linked_plan.nd rfl (Or.inl rfl) (pe_callTy call_tuple_of (by rfl) T.b_tuple (by decide +kernel) (pa_cons (pe_lc (te := tCB (fun xs H Q => ∃ a n, xs = [V.str a] ∧ PySem.intText? a = some n ∧ a.length ≤ 640 ∧ Q (V.int n) H) (tCons (tFld K (tFld K (tVar 5) "start") "text") tNil)) (own := [("robot", 5)]) rfl sc_linked_plan.nd (pi_list (pe_fld (pv 0) rfl)) (blkOk_by (own := [("robot", 5)]) (N := N_linked_plan) (sc := defScope s_linked_plan) (by decide +kernel)) (fun _ _ _ _ _ => by exact pg_name (i := 5) sc_linked_plan.nd rfl (Or.inl rfl)) (fun _ _ _ _ _ => by exact pts_nil) (fun _ _ _ _ _ => by exact (pe_callTy call_int_str (by rfl) T.b_int (by decide +kernel) (pa_cons (pe_fld (pe_fld (pv 5) rfl) rfl) pa_nil)))) pa_nil)))
        (pss_cons (ps_set (i := 3) sc_linked_plan.nd rfl (Or.inl rfl) (pe_callTy call_tuple_of (by rfl) T.b_tuple (by decide +kernel) (pa_cons (pe_lc (te := tCallR (spLk K) E0 (tCons (tFld K (tVar 5) "steps") tNil)) (own := [("robot", 5)]) rfl sc_linked_plan.nd (pi_list (pe_fld (pv 0) rfl)) (blkOk_by (own := [("robot", 5)]) (N := N_linked_plan) (sc := defScope s_linked_plan) (by decide +kernel)) (fun _ _ _ _ _ => by exact pg_name (i := 5) sc_linked_plan.nd rfl (Or.inl rfl)) (fun _ _ _ _ _ => by exact pts_nil) (fun _ _ _ _ _ => by exact (pe_callR G_linked_steps (hr.mono (by decide)) T.g_linked_steps KP_linked_steps passL (pa_cons (pe_fld (pv 5) rfl) pa_nil)))) pa_nil)))
        (pss_one (ps_ret (StX.pe_makeR T.k_Plan G_Plan_init (hr.mono (by decide)) (by rfl) T.g_Plan px (pa_cons (pv 1) (pa_cons (pv 2) (pa_cons (pv 3) pa_nil))))))))), ?_⟩
    have hhi := hV.hi
    have hla := hV.la
    have hlb := hV.lb
    obtain ⟨pa, pdx, kv, na, ns, ra, rs, rfl, h0, hk, hn, hN, hr0, hRR⟩ := hv
    obtain ⟨a0, d0, s0, q0, w0, a1, d1, s1, q1, w1, t0, t1, rfl, x1, x2, x3, x4, y1, y2, y3, y4⟩ := robs_at hV hRR
    have hlen := hN.len
    have hnl := pt_nums hV
    -- boxes
    refine q_asgL (el_lcL (xs := ns) (fun _ => true) (fun i => V.int ((Pl.bx.getD i 0 : Nat) : Int)) (ev_fld (ev_var rfl) h0 T.c_PlanTokens T.n_PlanTokens_numbers rfl) (sq_of hn) (by omega) (fun _ => rfl) (fun _ _ _ _ _ => et_yes) fun i x H3 e3 hx _ => ?_) fun bl H3 hbl e3 h3 => ?_
    · obtain ⟨t, ht, ta, tdx, rfl, hta⟩ := hN.getV hx
      obtain ⟨n, hbn, htx, hn3⟩ := num_at hV ht
      rw [List.getD_eq_getElem?_getD, hbn]
      exact ev_intS (a := t.text) (ev_fld (ev_var rfl) (e3 _ _ hta) T.c_Token T.n_Token_text rfl) (by rw [htx]; exact numS_int (by omega)) (by rw [htx]; have := numS_len (n := n) (by omega); omega)
    rw [given_all (xs := Pl.bx.map fun (n : Nat) => V.int n) (by rw [List.length_map]; omega) (fun i x hx => by
      rw [List.getElem?_map] at hx
      cases q : Pl.bx[i]? with
      | none => rw [q] at hx; cases hx
      | some n =>
        rw [q] at hx
        rw [List.getD_eq_getElem?_getD, q]
        exact Option.some.inj hx)] at h3
    -- first_cells
    refine q_asgU (eu_tupL (el_lcL (xs := [.ref a0, .ref a1]) (fun _ => true) (fun i => if i = 0 then V.int Pl.a else V.int Pl.b) (ev_fld (ev_var rfl) (e3 _ _ h0) T.c_PlanTokens T.n_PlanTokens_robots rfl) (sq_of (e3 _ _ hr0)) (by show 2 ≤ 40000; decide) (fun _ => rfl) (fun _ _ _ _ _ => et_yes) fun i x H4 e4 hx _ => ?_)) fun ft H4 hft e4 h4 => ?_
    · have e34 := e3.trans e4
      match i, hx with
      | 0, hx =>
        obtain rfl : V.ref a0 = x := Option.some.inj hx
        exact ev_intS (a := r0.start.text) (ev_fld (ev_fld (ev_var rfl) (e34 _ _ x1) T.c_RobotTokens T.n_RobotTokens_start rfl) (e34 _ _ x2) T.c_Token T.n_Token_text rfl) (by rw [hV.sa]; exact numS_int (by omega)) (by rw [hV.sa]; have := numS_len (n := Pl.a) (by omega); omega)
      | 1, hx =>
        obtain rfl : V.ref a1 = x := Option.some.inj hx
        exact ev_intS (a := r1.start.text) (ev_fld (ev_fld (ev_var rfl) (e34 _ _ y1) T.c_RobotTokens T.n_RobotTokens_start rfl) (e34 _ _ y2) T.c_Token T.n_Token_text rfl) (by rw [hV.sb]; exact numS_int (by omega)) (by rw [hV.sb]; have := numS_len (n := Pl.b) (by omega); omega)
      | i + 2, hx => simp at hx
    have h4' : H4 ft = some (.tup [.int Pl.a, .int Pl.b]) := h4
    -- steps
    have e24 := e3.trans e4
    refine q_setH ⟨.ref pa, rfl, pa, _, pdx, _, _, rfl, e24 _ _ h0, T.c_PlanTokens, T.n_PlanTokens_robots, rfl, ra, rfl, ⟨_, sq_of (e24 _ _ hr0)⟩, fun Dl hD => ?_⟩
    have nD : ∀ {a o}, H4 a = some o → a ≠ Dl := fun h => ne_of_none h hD
    refine lc_list (xs := [.ref a0, .ref a1]) (fun i H' => Ex H4 H' ∧ ∃ ys : List V, H' Dl = some (.lst ys) ∧ ((i = 0 ∧ ys = []) ∨ (i = 1 ∧ ∃ p0 u0, ys = [.ref p0] ∧ H' p0 = some (.lst u0) ∧ p0 ≠ Dl ∧ All (LkAt H') u0 Pl.l0) ∨
      (i = 2 ∧ ∃ p0 u0 p1 u1, ys = [.ref p0, .ref p1] ∧ H' p0 = some (.lst u0) ∧ All (LkAt H') u0 Pl.l0 ∧ H' p1 = some (.lst u1) ∧ All (LkAt H') u1 Pl.l1)))
      ⟨Ex.new hD, [], upd_same, .inl ⟨rfl, rfl⟩⟩ (fun i H' _ ⟨e, _⟩ => sq_of (e _ _ (e24 _ _ hr0))) ?_ ?_
    · rintro i v H' hv ⟨e5, ys, h5, cases5⟩
      have e25 := e24.trans e5
      match i, hv, cases5 with
      | 0, hv, cases5 =>
        obtain rfl : V.ref a0 = v := Option.some.inj hv
        obtain ⟨_, rfl⟩ : (0 : Nat) = 0 ∧ ys = [] := by
          rcases cases5 with h | ⟨h, _⟩ | ⟨h, _⟩
          · exact h
          · cases h
          · cases h
        refine ⟨rfl, ?_⟩
        refine ⟨.ref a0, rfl, a0, _, d0, _, _, rfl, e25 _ _ x1, T.c_RobotTokens, T.n_RobotTokens_steps, rfl, ?_⟩
        refine ⟨_, r0.steps, rfl, ⟨q0, w0, rfl, e25 _ _ x3, x4.imp fun v x r => r.es (ES.of e25)⟩, hV.v0, fun p0 H6 u0 n0 e6 h6 hA6 => ?_⟩
        have hDl6 := e6 _ _ h5
        refine ⟨[], hDl6, by decide, Ex.mut (e5.trans e6) hD, [.ref p0], upd_same, .inr (.inl ⟨rfl, p0, u0, rfl, ?_, ?_, ?_⟩)⟩
        · rw [upd_ne (Ne.symm (ne_of_none h5 n0))]
          exact h6
        · exact Ne.symm (ne_of_none h5 n0)
        · rw [hl0]
          exact hA6.imp fun v x r => r.put hDl6
      | 1, hv, cases5 =>
        obtain rfl : V.ref a1 = v := Option.some.inj hv
        obtain ⟨p0, u0, rfl, z1, z2, z3⟩ : ∃ p0 u0, ys = [.ref p0] ∧ H' p0 = some (.lst u0) ∧ p0 ≠ Dl ∧ All (LkAt H') u0 Pl.l0 := by
          rcases cases5 with ⟨h, _⟩ | ⟨_, h⟩ | ⟨h, _⟩
          · cases h
          · exact h
          · cases h
        refine ⟨rfl, ?_⟩
        refine ⟨.ref a1, rfl, a1, _, d1, _, _, rfl, e25 _ _ y1, T.c_RobotTokens, T.n_RobotTokens_steps, rfl, ?_⟩
        refine ⟨_, r1.steps, rfl, ⟨q1, w1, rfl, e25 _ _ y3, y4.imp fun v x r => r.es (ES.of e25)⟩, hV.v1, fun p1 H6 u1 n1 e6 h6 hA6 => ?_⟩
        have hDl6 := e6 _ _ h5
        refine ⟨[.ref p0], hDl6, by show 1 < sizeLine; decide, Ex.mut (e5.trans e6) hD, [.ref p0, .ref p1], upd_same, .inr (.inr ⟨rfl, p0, u0, p1, u1, rfl, ?_, ?_, ?_, ?_⟩)⟩
        · rw [upd_ne z2]
          exact e6 _ _ z1
        · exact z3.imp fun v x r => (r.ex e6).put hDl6
        · rw [upd_ne (Ne.symm (ne_of_none h5 n1))]
          exact h6
        · rw [hl1]
          exact hA6.imp fun v x r => r.put hDl6
      | i + 2, hv, _ => simp at hv
    · rintro H5 ⟨e5, ys, h5, cases5⟩
      obtain ⟨p0, u0, p1, u1, rfl, z1, z2, z3, z4⟩ : ∃ p0 u0 p1 u1, ys = [.ref p0, .ref p1] ∧ H5 p0 = some (.lst u0) ∧ All (LkAt H5) u0 Pl.l0 ∧ H5 p1 = some (.lst u1) ∧ All (LkAt H5) u1 Pl.l1 := by
        rcases cases5 with ⟨h, _⟩ | ⟨h, _⟩ | ⟨_, h⟩
        · cases h
        · cases h
        · exact h
      refine ⟨Dl, _, rfl, .inl ⟨sq_of h5, fun st hst => ?_⟩⟩
      have e6 : Ex H5 (upd H5 st (.tup [.ref p0, .ref p1])) := Ex.new hst
      have e46 := e5.trans e6
      refine s_retP (P := fun v H' => PlOb K H' v Pl) (ep_make (ea_cons (ev_var rfl) (ea_cons (ev_var rfl) (ea_cons (ev_var rfl) ea_nil))) rfl fun x dx H7 e7 h7 => ⟨x, dx, bl, ft, st, p0, p1, u0, u1, rfl, h7, ((e4.trans e46).trans e7) _ _ h3, (e46.trans e7) _ _ h4', e7 _ _ upd_same, (e6.trans e7) _ _ z1, (e6.trans e7) _ _ z3, z2.imp fun v x r => r.ex (e6.trans e7), z4.imp fun v x r => r.ex (e6.trans e7)⟩) fun v H8 e8 hv8 => ?_
      exact k v H8 ((e24.trans e46).trans e8) hv8

theorem ok_read_plan (T : Txt K mg) : FnR P w K mg base (L2.CX P w) 8 (He.ga K "read_plan") (spRead K) := by
  have G_parse_plan := ok_parse_plan (P := P) (w := w) (base := base) T
  have KP_parse_plan : PySem.W.keepIn K (.ref (He.ga K "parse_plan")) = true := by
    obtain ⟨_, F⟩ := T.F_parse_plan
    exact F.kp
  have G_check_plan := ok_check_plan (P := P) (w := w) (base := base) T
  have KP_check_plan : PySem.W.keepIn K (.ref (He.ga K "check_plan")) = true := by
    obtain ⟨_, F⟩ := T.F_check_plan
    exact F.kp
  have G_linked_plan := ok_linked_plan (P := P) (w := w) (base := base) T
  have KP_linked_plan : PySem.W.keepIn K (.ref (He.ga K "linked_plan")) = true := by
    obtain ⟨_, F⟩ := T.F_linked_plan
    exact F.kp
  obtain ⟨fd, F⟩ := T.F_read_plan
  have B : Binds K fd P_read_plan [] := F.bindsN fun _ _ _ _ _ _ us hl => match us, hl with | [_], _ => rfl
  refine fnR_of F B (F.ok sc_read_plan (fun vs H Q E h => ?_) (fun cdv A outer s H vs Q E hr h => ?_))
  · obtain ⟨z, Pl, rfl, _⟩ := h
    rfl
  · have hu := hu_of hr
    obtain ⟨z, Pl, rfl, hR, k⟩ := h
    refine ⟨_, (pss_cons (ps_set (i := 1) sc_read_plan.nd rfl (Or.inl rfl) (pe_callR G_parse_plan (hr.mono (by decide)) T.g_parse_plan KP_parse_plan px (pa_cons (pv 0) pa_nil)))
        (pss_cons (ps_expr (pe_callR G_check_plan (hr.mono (by decide)) T.g_check_plan KP_check_plan px (pa_cons (pv 1) pa_nil)))
        (pss_one (ps_ret (pe_callR G_linked_plan (hr.mono (by decide)) T.g_linked_plan KP_linked_plan px (pa_cons (pv 1) pa_nil)))))), ?_⟩
    obtain ⟨hz, p, r0, r1, hpz, hV, hl0, hl1⟩ := hR
    refine q_setH ⟨_, rfl, z, rfl, hz, fun p' hp' v H1 e1 hv => ?_, fun e he => by rw [hpz] at he; cases he⟩
    obtain rfl : p = p' := by
      rw [hpz] at hp'
      exact Except.ok.inj hp'
    refine q_dropH ⟨_, rfl, v, p, Pl.bx, Pl.a, Pl.b, r0, r1, rfl, hv, hV, fun H2 e2 => ?_⟩
    exact s_retH ⟨_, rfl, v, p, Pl, r0, r1, rfl, hv.ex e2, hV, hl0, hl1, fun v' H3 e3 hv' => k v' H3 ((e1.trans e2).trans e3) hv'⟩

end SB

set_option maxHeartbeats 4000000
namespace SB
open PySem PySem.Spec PyProof.Rows L2
open TL (tl)
def labC (n : Nat) : List Nat := [115, 97 + n]
def stepC (tg : List (Option Nat)) (n : Nat) (s : Lk) : List Nat := [32, 32] ++ (if some n ∈ tg then labC n ++ [58, 32] else []) ++ tl s.1 ++ (match s.2 with
  | none => []
  | some t => 32 :: labC t) ++ [59]
def stepsFrom (tg : List (Option Nat)) : Nat → List Lk → List (List Nat)
  | _, [] => []
  | n, s :: r => stepC tg n s :: stepsFrom tg (n + 1) r
def stepLs (l : List Lk) : List (List Nat) := stepsFrom (l.map (·.2)) 0 l
def robC (a : Nat) (l : List Lk) : List (List Nat) := (tl ("robot " : Str) ++ TL.numL a ++ [32, 123]) :: (stepLs l ++ [[125]])
def planC (P : Plm) : List (List Nat) := (tl ("shelf " : Str) ++ TL.joinL [32] (P.bx.map TL.numL) ++ [59]) :: (robC P.a P.l0 ++ robC P.b P.l1)
def textC (P : Plm) : List Nat := TL.joinL [10] (planC P)
/-- the canonical text -/
def planText (P : Plm) : Str := mkS (textC P)
/-- steps that can be written -/
structure LkOk (l : List Lk) : Prop where
  len : l.length ≤ 20
  word : ∀ s ∈ l, s.1 ∈ commands
  tgt : ∀ s ∈ l, ∀ t, s.2 = some t → t < l.length
structure PlOk (P : Plm) : Prop where
  lo : 3 ≤ P.bx.length
  hi : P.bx.length ≤ 12
  most : ∀ n ∈ P.bx, n ≤ 3
  la : P.a < P.bx.length
  lb : P.b < P.bx.length
  ab : P.a ≠ P.b
  k0 : LkOk P.l0
  k1 : LkOk P.l1
theorem cmd_len {w : Str} (h : w ∈ commands) : w.length ≤ 5 := by
  have : ∀ w ∈ commands, w.length ≤ 5 := by decide +kernel
  exact this w h
theorem stepC_len {tg : List (Option Nat)} {n : Nat} {s : Lk} (h : s.1.length ≤ 5) : (stepC tg n s).length ≤ 20 := by
  unfold stepC
  have := len_tl s.1
  have e1 : (if some n ∈ tg then labC n ++ [58, 32] else []).length ≤ 4 := by
    split
    · exact Nat.le_refl 4
    · exact Nat.zero_le 4
  have e2 : (match s.2 with | none => [] | some t => 32 :: labC t).length ≤ 3 := by
    cases s.2 with
    | none => exact Nat.zero_le 3
    | some t => exact Nat.le_refl 3
  simp only [List.length_append, List.length_cons, List.length_nil]
  omega
theorem stepsFrom_len (tg : List (Option Nat)) : ∀ (l : List Lk) (n : Nat), (stepsFrom tg n l).length = l.length
  | [], _ => rfl
  | s :: r, n => by
    show (stepsFrom tg (n + 1) r).length + 1 = r.length + 1
    rw [stepsFrom_len tg r (n + 1)]
theorem stepsFrom_get (tg : List (Option Nat)) : ∀ (l : List Lk) (n i : Nat) (s : Lk), l[i]? = some s → (stepsFrom tg n l)[i]? = some (stepC tg (n + i) s)
  | [], _, i, _, h => by simp at h
  | a :: r, n, 0, s, h => by
    obtain rfl : a = s := Option.some.inj h
    rfl
  | a :: r, n, i + 1, s, h => by
    have := stepsFrom_get tg r (n + 1) i s h
    show (stepsFrom tg (n + 1) r)[i]? = _
    rw [this, show n + 1 + i = n + (i + 1) by omega]
theorem steps_small {tg : List (Option Nat)} : ∀ (l : List Lk) (n : Nat), (∀ s ∈ l, s.1.length ≤ 5) → ∀ x ∈ stepsFrom tg n l, x.length ≤ 20
  | [], _, _, x, h => by cases h
  | s :: r, n, hw, x, h => by
    rcases List.mem_cons.mp h with h | h
    · subst h
      exact stepC_len (hw s (List.mem_cons_self ..))
    · exact steps_small r (n + 1) (fun s hs => hw s (List.mem_cons_of_mem _ hs)) x h
end SB

set_option maxHeartbeats 4000000
namespace SB
open PySem PySem.Spec PyProof.Rows L2
open TL (tl)
open Evl
section
variable {K : PySem.W.Frag} {σ : L2.St} {H H' : Hp} {ta tb te : TE} {t u : TT} {x y z v : V} {E : XK} {D : L2.Ends} {tu tw tz : TS}
/-- the parts of a formatted text -/
inductive EvJ : List TE → L2.St → Hp → List Str → Prop where
  | nil {σ : L2.St} {H : Hp} : EvJ [] σ H []
  | cons {t : TE} {ts : List TE} {σ : L2.St} {H : Hp} {y : Str} {ys : List Str} (h : Ev t σ H (.str y)) (r : EvJ ts σ H ys) : EvJ (t :: ts) σ H (y :: ys)
def catS : Str → List Str → Str
  | acc, [] => acc
  | acc, y :: ys => catS (acc ++ y) ys
theorem catS_tl : ∀ (acc : Str) (ys : List Str), tl (catS acc ys) = tl acc ++ (ys.map tl).flatten
  | acc, [] => by simp [catS]
  | acc, y :: ys => by
    show tl (catS (acc ++ y) ys) = _
    rw [catS_tl (acc ++ y) ys, TL.tl_append]
    simp
theorem evj_run : ∀ {ts : List TE} {ys : List Str}, EvJ ts σ H ys → ∀ (acc : Str) (H1 : Hp), Ex H H1 → ∀ Q : Str → Hp → Prop, acc.length + (ys.map Str.length).sum ≤ sizeLine → (∀ H2, Ex H1 H2 → Q (catS acc ys) H2) → tJs ts acc σ H1 Q
  | _, _, .nil, acc, H1, e, Q, hl, q => q H1 (Ex.refl H1)
  | _, _, .cons (y := y) (ys := ys) h r, acc, H1, e, Q, hl, q => h H1 e _ fun H2 e2 => by
    simp only [List.map_cons, List.sum_cons] at hl
    refine ⟨y, rfl, by rw [app_len]; omega, evj_run r (acc ++ y) H2 (e.trans e2) Q (by rw [app_len]; omega) fun H3 e3 => q H3 (e2.trans e3)⟩
theorem ev_js {ts : List TE} {ys : List Str} (h : EvJ ts σ H ys) (hl : (ys.map Str.length).sum ≤ sizeLine) : Ev (fun σ H Q => tJs ts Str.empty σ H fun out H1 => Q (.str out) H1) σ H (.str (catS Str.empty ys)) := fun H1 e Q q =>
  evj_run h Str.empty H1 e _ (by show 0 + _ ≤ _; omega) q
theorem ev_fmtS {s : Str} (h : Ev te σ H (.str s)) (hl : s.length ≤ sizeLine) : Ev (tFmt te) σ H (.str s) := fun H1 e Q q => h H1 e _ fun H2 e2 => .inl ⟨s, rfl, hl, q H2 e2⟩
theorem ev_strI {n : Nat} (h : Ev te σ H (.int n)) (hn : n ≤ 1000000) : Ev (tCB (fun xs H Q => ∃ i, xs = [V.int i] ∧ i.natAbs.log2 < 1920 ∧ Q (V.str (toString i)) H) (tCons te tNil)) σ H (.str (numS n)) := fun H1 e Q q =>
  h H1 e _ fun H2 e2 => ⟨n, rfl, log_ok ⟨by omega, by omega⟩, q H2 e2⟩
theorem rv_addS {a b : Str} (h : a.length + b.length ≤ sizeLine) : RV (fun x y H Q => ∃ i j, x = V.str i ∧ y = V.str j ∧ i.length + j.length ≤ sizeLine ∧ Q (V.str (i ++ j)) H) (.str a) (.str b) H (.str (a ++ b)) := fun H1 _ _ q => ⟨a, b, rfl, rfl, h, q H1 (Ex.refl H1)⟩
/-- sep.join(list of texts) -/
theorem ev_joinL {a : Str} {ys : List Str} {p : Addr} (h : Ev ta σ H (.str a)) (h2 : Ev tb σ H (.ref p)) (hp : H p = some (.lst (ys.map V.str))) (hl : (ys.map (·.length)).sum + ys.length * a.length ≤ 16777216) :
    Ev (tM1 (fun x xs H Q => ∃ a p, ∃ ys : List Str, x = V.str a ∧ xs = [V.ref p] ∧ (SqL K H p (ys.map V.str) ∨ SqT K H p (ys.map V.str)) ∧ (ys.map (·.length)).sum + ys.length * a.length ≤ 16777216 ∧ Q (V.str (Txt.join a ys)) H) ta tb) σ H (.str (Txt.join a ys)) := fun H1 e Q q =>
  h H1 e _ fun H2 e2 => ⟨⟨a, rfl⟩, h2 H2 (e.trans e2) _ fun H3 e3 => ⟨a, p, ys, rfl, rfl, .inl (sq_of (((e.trans e2).trans e3) _ _ hp)), hl, q H3 (e2.trans e3)⟩⟩
theorem ev_joinN {a : Str} {ys : List Str} (h : Ev ta σ H (.str a)) (h2 : EvL tb σ H (ys.map V.str)) (hl : (ys.map (·.length)).sum + ys.length * a.length ≤ 16777216) :
    Ev (tM1 (fun x xs H Q => ∃ a p, ∃ ys : List Str, x = V.str a ∧ xs = [V.ref p] ∧ (SqL K H p (ys.map V.str) ∨ SqT K H p (ys.map V.str)) ∧ (ys.map (·.length)).sum + ys.length * a.length ≤ 16777216 ∧ Q (V.str (Txt.join a ys)) H) ta tb) σ H (.str (Txt.join a ys)) := fun H1 e Q q =>
  h H1 e _ fun H2 e2 => ⟨⟨a, rfl⟩, h2 H2 (e.trans e2) _ fun p H3 _ e3 hp => ⟨a, p, ys, rfl, rfl, .inl (sq_of hp), hl, q H3 (e2.trans e3)⟩⟩
/-- a comprehension over a list of pairs, the target (a, b) -/
theorem el_lcP {a : Addr} {xs : List V} {tl_ : TE} {j1 j2 n : Nat} {vs : List Nat} (f : Nat → Bool) (w : Nat → V) (h : Ev tl_ σ H (.ref a)) (hx : SqL K H a xs) (hz : xs.length ≤ 40000) (hn : 2 = n) (hw : ∀ x y, wipe (((wipe σ vs).set j1 (some x)).set j2 (some y)) vs = wipe σ vs)
    (hp : ∀ (i : Nat) (x : V), xs[i]? = some x → ∃ b u v, x = .ref b ∧ SqT K H b [u, v] ∧ (∀ H1, Ex H H1 → EvT t (((wipe σ vs).set j1 (some u)).set j2 (some v)) H1 (f i)) ∧ ∀ H1, Ex H H1 → f i = true → Ev te (((wipe σ vs).set j1 (some u)).set j2 (some v)) H1 (w i)) :
    EvL (tLc (iList K tl_) (gTup K n (gCons (gName j1) (gCons (gName j2) gNil))) t te vs) σ H (given xs.length f w) := fun H0 e Q q => h H0 e _ fun H1 e1 => ⟨a, rfl, ⟨xs, ex_l (e.trans e1) hx⟩, fun Dl hD =>
  lc_list (xs := xs) (Cw H1 f w Dl) ⟨hD, Ex.new hD, upd_same⟩ (fun i H' _ p => ex_l ((e.trans e1).trans p.2.1) hx) (fun i x H' hi p => by
    obtain ⟨b, u, v, rfl, hb, ht, he⟩ := hp i x hi
    exact ⟨b, [u, v], rfl, ex_t ((e.trans e1).trans p.2.1) hb, hn, _, _, rfl, _, _, rfl, rfl, hw u v, cw_turn p (by have := (List.getElem?_eq_some_iff.mp hi).1; omega) (ht H1 (e.trans e1)) (fun hf => he H1 (e.trans e1) hf)⟩)
    (fun H' p => q Dl H' (fresh_back e1 p.1) (e1.trans p.2.1) p.2.2)⟩
/-- for i, (a, b) in enumerate(xs) -/
theorem s_forEnumP {ta : TA} {a : Addr} {xs : List V} {j1 j2 j3 n m : Nat} (h : EvA ta σ H [.ref a]) (hx : SqL K H a xs) (hn : 2 = n) (hm : 2 = m) (Pv : Nat → L2.St → Hp → Prop) (h0 : ∀ H1, Ex H H1 → Pv 0 σ H1) (hl : ∀ i σ' H', i ≤ xs.length → Pv i σ' H' → SqL K H' a xs)
    (hp : ∀ (i : Nat) x σ' H', xs[i]? = some x → Pv i σ' H' → ∃ b u v, x = .ref b ∧ SqT K H' b [u, v] ∧ ∀ H2, Ex H' H2 → tu { D with nx := Pv (i + 1), ct := Pv (i + 1), bk := D.nx } (((σ'.set j1 (some (.int (i : Int)))).set j2 (some u)).set j3 (some v)) H2) (hd : ∀ σ' H', Pv xs.length σ' H' → D.nx σ' H') :
    tFor (iEnum K ta) (gTup K n (gCons (gName j1) (gCons (gTup K m (gCons (gName j2) (gCons (gName j3) gNil))) gNil))) tu D σ H :=
  h H (Ex.refl H) _ fun H1 e => ⟨a, xs, rfl, ex_l e hx, for_it walk_enum Pv (h0 H1 e) hl (fun i v σ' H' H2 hi p y => by
    obtain ⟨T, x, y, rfl, hT, rfl, ex, ey⟩ := y
    obtain rfl : V.int (i : Int) = x := Option.some.inj ex
    obtain ⟨b, u, v, rfl, hb, kk⟩ := hp i y σ' H' ey p
    exact ⟨T, [.int (i : Int), .ref b], rfl, st_of upd_same, hn, _, _, rfl, _, _, rfl, ⟨b, [u, v], rfl, ex_t (Ex.new hT) hb, hm, _, _, rfl, _, _, rfl, rfl, rfl, kk _ (Ex.new hT)⟩⟩) hd⟩
theorem q_forEnumP {ta : TA} {a : Addr} {xs : List V} {j1 j2 j3 n m : Nat} (h : EvA ta σ H [.ref a]) (hx : SqL K H a xs) (hn : 2 = n) (hm : 2 = m) (Pv : Nat → L2.St → Hp → Prop) (h0 : ∀ H1, Ex H H1 → Pv 0 σ H1) (hl : ∀ i σ' H', i ≤ xs.length → Pv i σ' H' → SqL K H' a xs)
    (hp : ∀ (i : Nat) x σ' H', xs[i]? = some x → Pv i σ' H' → ∃ b u v, x = .ref b ∧ SqT K H' b [u, v] ∧ ∀ H2, Ex H' H2 → tu { D with nx := Pv (i + 1), ct := Pv (i + 1), bk := tz D } (((σ'.set j1 (some (.int (i : Int)))).set j2 (some u)).set j3 (some v)) H2) (hd : ∀ σ' H', Pv xs.length σ' H' → tz D σ' H') :
    tSeq (tFor (iEnum K ta) (gTup K n (gCons (gName j1) (gCons (gTup K m (gCons (gName j2) (gCons (gName j3) gNil))) gNil))) tu) tz D σ H := s_forEnumP (D := { D with nx := tz D }) h hx hn hm Pv h0 hl hp hd
/-- for a, b in zip(t, u), two tuples -/
theorem q_forZipT {ta : TA} {a b : Addr} {xs ys : List V} {j1 j2 n : Nat} (h : EvA ta σ H [.ref a, .ref b]) (hx : SqT K H a xs) (hy : SqT K H b ys) (hl : xs.length = ys.length) (hn : 2 = n) (Pv : Nat → L2.St → Hp → Prop) (h0 : ∀ H1, Ex H H1 → Pv 0 σ H1) (hq : ∀ i σ' H', Pv i σ' H' → SqT K H' a xs ∧ SqT K H' b ys)
    (hs : ∀ (i : Nat) x y σ' H' H2, xs[i]? = some x → ys[i]? = some y → Pv i σ' H' → Ex H' H2 → tu { D with nx := Pv (i + 1), ct := Pv (i + 1), bk := tz D } ((σ'.set j1 (some x)).set j2 (some y)) H2) (hd : ∀ σ' H', Pv xs.length σ' H' → tz D σ' H') :
    tSeq (tFor (RZ.iZipA K ta) (gTup K n (gCons (gName j1) (gCons (gName j2) gNil))) tu) tz D σ H :=
  h H (Ex.refl H) _ fun H1 e => ⟨a, b, xs, ys, rfl, .inr ⟨ex_t e hx, ex_t e hy, RZ.for_zipT (D := { D with nx := tz D }) hl Pv (h0 H1 e) hq (fun i x y T σ' H' ex ey p hT => ⟨T, [x, y], rfl, st_of upd_same, hn, _, _, rfl, _, _, rfl, rfl, hs i x y σ' H' _ ex ey p (Ex.new hT)⟩) hd⟩⟩
end
theorem tl_inj {a b : Str} (h : tl a = tl b) : a = b := by rw [← mkS_tl a, ← mkS_tl b, h]
end SB

set_option maxHeartbeats 4000000
namespace SB
open PySem PySem.Spec PyProof.Rows L2
open TL (tl)
open Evl
variable {P : Program} {w : World} {K : PySem.W.Frag} {mg : Str → Option Value} {base : Heap}


theorem blank2 : tl ("  " : Str) = [32, 32] := by decide +kernel
theorem blank1 : tl (" " : Str) = [32] := by decide +kernel
theorem semi1 : tl (";" : Str) = [59] := by decide +kernel
theorem colon2 : tl (": " : Str) = [58, 32] := by decide +kernel
theorem let_s : tl ("s" : Str) = [115] := by decide +kernel
theorem empty0 : ("" : Str) = mkS [] := by decide +kernel
theorem tl_empty : tl Str.empty = [] := rfl
theorem letter_at {n : Nat} (h : n < 20) : (tl ("abcdefghijklmnopqrst" : Str))[n]? = some (97 + n) := by
  have : ∀ n < 20, (tl ("abcdefghijklmnopqrst" : Str))[n]? = some (97 + n) := by decide +kernel
  exact this n h
theorem len_s1 {a : Str} (h : a.length = 1) : ((["s", a] : List Str).map Str.length).sum ≤ sizeLine := by
  have k1 : (("s" : Str)).length ≤ 2 := by decide +kernel
  have bl : 1000 < sizeLine := by decide
  simp only [List.map_cons, List.map_nil, List.sum_cons, List.sum_nil]
  omega
theorem len_2c {a : Str} (h : a.length = 2) : (([a, ": "] : List Str).map Str.length).sum ≤ sizeLine := by
  have k1 : ((": " : Str)).length ≤ 2 := by decide +kernel
  have bl : 1000 < sizeLine := by decide
  simp only [List.map_cons, List.map_nil, List.sum_cons, List.sum_nil]
  omega
theorem len_c2 {a : Str} (h : a.length = 2) : (([" ", a] : List Str).map Str.length).sum ≤ sizeLine := by
  have k1 : ((" " : Str)).length ≤ 2 := by decide +kernel
  have bl : 1000 < sizeLine := by decide
  simp only [List.map_cons, List.map_nil, List.sum_cons, List.sum_nil]
  omega
def spLab : Sp := fun vs H Q _ => ∃ n : Nat, vs = [.int n] ∧ n < 20 ∧ RetV (.str (mkS (labC n))) H Q
theorem inV_lk (n : Nat) (os : List (Option Nat)) : inV (.int n) (os.map lkV) = decide (some n ∈ os) := by
  induction os with
  | nil => rfl
  | cons a r ih =>
    have e : inV (.int n) ((a :: r).map lkV) = (eqV (lkV a) (.int n) || inV (.int n) (r.map lkV)) := rfl
    have e2 : eqV (lkV a) (.int n) = decide (some n = a) := by
      cases a with
      | none => simp [lkV, eqV]
      | some m =>
        show ((m : Int) == (n : Int)) = _
        by_cases q : m = n
        · subst q; simp
        · rw [decide_eq_false (fun h => q (Option.some.inj h).symm)]
          simp
          omega
    rw [e, e2, ih, ← Bool.decide_or]
    apply decide_eq_decide.mpr
    rw [List.mem_cons]
theorem flat_lk : ∀ os : List (Option Nat), (os.map lkV).all flatV = true
  | [] => rfl
  | none :: r => flat_lk r
  | some _ :: r => flat_lk r
def LksAt (H : Hp) (v : V) (l : List Lk) : Prop := LAt H (LkAt H) v l
theorem LksAt.ex {H H' : Hp} {v : V} {l : List Lk} (e : Ex H H') (h : LksAt H v l) : LksAt H' v l := by
  obtain ⟨a, vs, rfl, h1, h2⟩ := h
  exact ⟨a, vs, rfl, e _ _ h1, h2.imp fun v x r => r.ex e⟩
def spSLs : Sp := fun vs H Q _ => ∃ v l, vs = [v] ∧ LksAt H v l ∧ LkOk l ∧ RetN (.lst ((stepLs l).map fun c => V.str (mkS c))) H Q

theorem ok_label_of (T : Txt K mg) : FnR P w K mg base (L2.CX P w) 1 (He.ga K "label_of") spLab := by
  obtain ⟨fd, F⟩ := T.F_label_of
  have B : Binds K fd P_label_of [] := F.bindsN fun _ _ _ _ _ _ us hl => match us, hl with | [_], _ => rfl
  refine fnR_of F B (F.ok sc_label_of (fun vs H Q E h => ?_) (fun cdv A outer s H vs Q E hr h => ?_))
  · obtain ⟨n, rfl, _⟩ := h
    rfl
  · have hu := hu_of hr
    obtain ⟨n, rfl, hn, k⟩ := h
    refine ⟨_, (pss_one (ps_ret (pe_joined (.cons pe_str (.cons (pe_fmt (pe_ix ix_str (pe_gs T.v_STEP_LETTERS) (pv 0) (fun _ _ => rfl))) .nil))))), ?_⟩
    refine s_ret (ev_is (ev_js (.cons ev_c (.cons (ev_fmtS (ev_op ev_c (ev_var rfl) (rv_ixS' (by decide +kernel) (letter_at hn))) (by show 1 ≤ sizeLine; decide)) .nil)) (len_s1 rfl)) (congrArg V.str (tl_inj ?_))) k
    rw [catS_tl]
    show tl Str.empty ++ (tl ("s" : Str) ++ ([97 + n] ++ [])) = _
    rw [let_s]
    rfl

theorem ok_step_lines (T : Txt K mg) : FnR P w K mg base (L2.CX P w) 2 (He.ga K "step_lines") spSLs := by
  have G_label_of := ok_label_of (P := P) (w := w) (base := base) T
  have KP_label_of : PySem.W.keepIn K (.ref (He.ga K "label_of")) = true := by
    obtain ⟨_, F⟩ := T.F_label_of
    exact F.kp
  obtain ⟨fd, F⟩ := T.F_step_lines
  have B : Binds K fd P_step_lines [] := F.bindsN fun _ _ _ _ _ _ us hl => match us, hl with | [_], _ => rfl
  refine fnR_of F B (F.ok sc_step_lines (fun vs H Q E h => ?_) (fun cdv A outer s H vs Q E hr h => ?_))
  · obtain ⟨v, l, rfl, _⟩ := h
    rfl
  · have hu := hu_of hr
    obtain ⟨v, l, rfl, hs, hO, k⟩ := h
    refine ⟨_, (pss_cons (ps_setLc (i := 1) (g := gTup K 2 (gCons (gName 8) (gCons (gName 5) gNil))) (own := [("_", 8), ("target", 5)]) rfl sc_step_lines.nd rfl rfl (sw_true rfl rfl rfl (by decide +kernel)) (pi_list (pv 0)) (blkOk_by (own := [("_", 8), ("target", 5)]) (N := N_step_lines) (sc := defScope s_step_lines) (by decide +kernel)) (fun _ _ _ _ _ => by exact pg_tup rfl (pgs_cons (pg_name (i := 8) sc_step_lines.nd rfl (Or.inl rfl)) (pgs_cons (pg_name (i := 5) sc_step_lines.nd rfl (Or.inl rfl)) pgs_nil))) (fun _ _ _ _ _ => by exact pts_nil) (fun _ _ _ _ _ => by exact (pv 5)))
        (pss_cons (ps_set (i := 2) sc_step_lines.nd rfl (Or.inl rfl) (pe_lst pa_nil))
        (pss_cons (ps_for (passes_of rfl) rfl (pi_enum (by rfl) T.b_enumerate (pa_cons (pv 0) pa_nil)) (pg_tup rfl (pgs_cons (pg_name (i := 3) sc_step_lines.nd rfl (Or.inl rfl)) (pgs_cons (pg_tup rfl (pgs_cons (pg_name (i := 4) sc_step_lines.nd rfl (Or.inl rfl)) (pgs_cons (pg_name (i := 5) sc_step_lines.nd rfl (Or.inl rfl)) pgs_nil))) pgs_nil))) (pss_cons (ps_set (i := 6) sc_step_lines.nd rfl (Or.inl rfl) (pe_ifExp (pt_cmpR op_in_seq (pv 3) (pv 1) (by rfl)) (pe_joined (.cons (pe_fmt (pe_callR G_label_of (hr.mono (by decide)) T.g_label_of KP_label_of px (pa_cons (pv 3) pa_nil))) (.cons pe_str .nil))) pe_str))
        (pss_cons (ps_set (i := 7) sc_step_lines.nd rfl (Or.inl rfl) (pe_ifExp (pt_cmpR op_isN (pv 5) pe_non (nomark _)) pe_str (pe_joined (.cons pe_str (.cons (pe_fmt (pe_callR G_label_of (hr.mono (by decide)) T.g_label_of KP_label_of px (pa_cons (pv 5) pa_nil))) .nil)))))
        (pss_one (ps_expr (pe_bm PySem.F.plainAttrs_list PySem.F.slot_list_append PySem.F.type_list_append mt_append (pv 2) (pa_cons (pe_joined (.cons pe_str (.cons (pe_fmt (pv 6)) (.cons (pe_fmt (pv 4)) (.cons (pe_fmt (pv 7)) (.cons pe_str .nil)))))) pa_nil)))))))
        (pss_one (ps_ret (pv 2)))))), ?_⟩
    obtain ⟨a, us, rfl, hl, hA⟩ := hs
    have hlen := hA.len
    have h20 := hO.len
    have bl : 1000 < sizeLine := by decide
    refine q_asgL (el_lcP (xs := us) (fun _ => true) (fun i => lkV ((l.map (·.2)).getD i none)) (ev_var rfl) (sq_of hl) (by omega) rfl (fun _ _ => rfl) fun i x hx => ?_) fun tg H1 htg e1 h1 => ?_
    · obtain ⟨s, hs, b, rfl, hb⟩ := hA.getV hx
      refine ⟨b, _, _, rfl, st_of hb, fun H2 e2 => et_yes, fun H2 e2 _ => ev_is (ev_var rfl) ?_⟩
      rw [List.getD_eq_getElem?_getD, List.getElem?_map, hs]
      rfl
    rw [given_all (xs := (l.map (·.2)).map lkV) (by simp [hlen]) (fun i x hx => by
      rw [List.getElem?_map] at hx
      cases q : (l.map (·.2))[i]? with
      | none => rw [q] at hx; cases hx
      | some n =>
        rw [q] at hx
        rw [List.getD_eq_getElem?_getD, q]
        exact Option.some.inj hx)] at h1
    refine q_asgL (el_lst ea_nil (by decide)) fun p H2 hp2 e2 h2 => ?_
    have e02 := e1.trans e2
    have hp : H p = none := fresh_back e1 hp2
    have npt : p ≠ tg := Ne.symm (ne_of_none h1 hp2)
    refine q_forEnumP (xs := us) (ea_cons (ev_var rfl) ea_nil) (sq_of (e02 _ _ hl)) rfl rfl (fun i σ' H' => ∃ (x y z u w : Option V), σ' = [some (.ref a), some (.ref tg), some (.ref p), x, y, z, u, w, none] ∧ Ex H H' ∧ H' p = some (.lst (((stepLs l).take i).map fun c => V.str (mkS c))) ∧ H' tg = some (.lst ((l.map (·.2)).map lkV)))
      (fun H3 e3 => ⟨none, none, none, none, none, rfl, e02.trans e3, e3 _ _ h2, (e2.trans e3) _ _ h1⟩) (fun i σ' H' _ ⟨_, _, _, _, _, _, e, _⟩ => sq_of (e _ _ hl)) ?_ ?_
    · rintro i v σ' H' hv ⟨x, y, z, u, w, rfl, e3, h3, h4⟩
      obtain ⟨s, hs, b, rfl, hb⟩ := hA.getV hv
      have hmem := List.mem_of_getElem? hs
      have hi : i < l.length := (List.getElem?_eq_some_iff.mp hs).1
      have hw5 := cmd_len (hO.word s hmem)
      refine ⟨b, _, _, rfl, st_of (e3 _ _ hb), fun H4 e4 => ?_⟩
      have e34 := e3.trans e4
      let lb : Str := if some i ∈ l.map (·.2) then mkS (labC i ++ [58, 32]) else mkS []
      let jp : Str := match s.2 with
        | none => mkS []
        | some t => mkS (32 :: labC t)
      have hlb : lb.length ≤ 4 := by
        show (if some i ∈ l.map (·.2) then mkS (labC i ++ [58, 32]) else mkS []).length ≤ 4
        split
        · exact Nat.le_refl 4
        · exact Nat.zero_le 4
      have hjp : jp.length ≤ 3 := by
        show (match s.2 with | none => mkS [] | some t => mkS (32 :: labC t)).length ≤ 3
        cases s.2 with
        | none => exact Nat.zero_le 3
        | some t => exact Nat.le_refl 3
      refine q_asg (v := .str lb) (ev_if (b := decide (some i ∈ l.map (·.2))) (et_test (ev_is (ev_op (ev_var rfl) (ev_var rfl) (rv_isL (sq_of (e4 _ _ h4)) rfl (flat_lk _))) (congrArg V.bl (inV_lk _ _)))) (fun hb => ?_) (fun hb => ?_)) fun H5 e5 => ?_
      · refine ev_is (ev_js (.cons (ev_fmtS (ev_callR (z := .str (mkS (labC i))) (ea_cons (ev_var rfl) ea_nil) fun H6 e6 Q6 q6 => ⟨i, rfl, by omega, q6⟩) (by show 2 ≤ sizeLine; decide)) (.cons ev_c .nil)) (len_2c rfl)) (congrArg V.str (tl_inj ?_))
        rw [catS_tl]
        show tl Str.empty ++ (labC i ++ (tl (": " : Str) ++ [])) = tl (if some i ∈ l.map (·.2) then mkS (labC i ++ [58, 32]) else mkS [])
        rw [if_pos (of_decide_eq_true hb), colon2]
        rfl
      · refine ev_is ev_c (congrArg V.str ?_)
        show ("" : Str) = if some i ∈ l.map (·.2) then mkS (labC i ++ [58, 32]) else mkS []
        rw [if_neg (of_decide_eq_false hb), empty0]
      have eN : decide (lkV s.2 = V.non) = s.2.isNone := by cases s.2 <;> rfl
      refine q_asg (v := .str jp) (ev_if (b := s.2.isNone) (et_test (ev_is (ev_op (ev_var rfl) ev_c rv_isN) (congrArg V.bl eN))) (fun hb => ?_) (fun hb => ?_)) fun H6 e6 => ?_
      · refine ev_is ev_c (congrArg V.str ?_)
        show ("" : Str) = match s.2 with | none => mkS [] | some t => mkS (32 :: labC t)
        cases q : s.2 with
        | none => exact empty0
        | some t => rw [q] at hb; cases hb
      · obtain ⟨t, et⟩ : ∃ t, s.2 = some t := by
          cases q : s.2 with
          | none => rw [q] at hb; cases hb
          | some t => exact ⟨t, rfl⟩
        have ht := hO.tgt s hmem t et
        refine ev_is (ev_js (.cons ev_c (.cons (ev_fmtS (ev_callR (z := .str (mkS (labC t))) (ea_cons (x := V.int (t : Nat)) (ev_is (ev_var rfl) (by rw [et]; rfl)) ea_nil) fun H6 e6 Q6 q6 => ⟨t, rfl, by omega, q6⟩) (by show 2 ≤ sizeLine; decide)) .nil)) (len_c2 rfl)) (congrArg V.str (tl_inj ?_))
        rw [catS_tl]
        show tl Str.empty ++ (tl (" " : Str) ++ (labC t ++ [])) = tl (match s.2 with | none => mkS [] | some t => mkS (32 :: labC t))
        rw [et, blank1]
        rfl
      have hp6 := ((e4.trans e5).trans e6) _ _ h3
      have hstep := stepsFrom_get (l.map (·.2)) l 0 i s hs
      have hstL : (stepLs l).length = l.length := stepsFrom_len _ _ _
      refine s_appP (P := fun v _ => v = V.str (mkS (stepC (l.map (·.2)) i s))) hp6 (ev_var rfl) (Ev.p (ev_is (ev_js (ys := ["  ", lb, s.1, jp, ";"]) (.cons ev_c (.cons (ev_fmtS (ev_var rfl) (by omega)) (.cons (ev_fmtS (ev_var rfl) (by omega)) (.cons (ev_fmtS (ev_var rfl) (by omega)) (.cons ev_c .nil))))) ?_) (congrArg V.str (tl_inj ?_))) fun _ _ => rfl) (by rw [List.length_map, List.length_take]; omega) fun v H7 e7 hv7 => ?_
      · have k1 : (("  " : Str)).length ≤ 2 := by decide +kernel
        have k2 : ((";" : Str)).length ≤ 2 := by decide +kernel
        simp only [List.map_cons, List.map_nil, List.sum_cons, List.sum_nil]
        omega
      · rw [catS_tl]
        show tl Str.empty ++ (tl ("  " : Str) ++ (tl lb ++ (tl s.1 ++ (tl jp ++ (tl (";" : Str) ++ []))))) = stepC (l.map (·.2)) i s
        have t1 : tl lb = if some i ∈ l.map (·.2) then labC i ++ [58, 32] else [] := by
          show tl (if some i ∈ l.map (·.2) then mkS (labC i ++ [58, 32]) else mkS []) = _
          split <;> rfl
        have t2 : tl jp = match s.2 with | none => [] | some t => 32 :: labC t := by
          show tl (match s.2 with | none => mkS [] | some t => mkS (32 :: labC t)) = _
          cases s.2 <;> rfl
        rw [t1, t2, blank2, semi1, tl_empty]
        unfold stepC
        simp only [List.nil_append, List.append_assoc, List.append_nil]
        all_goals rfl
      · subst hv7
        refine ⟨_, _, _, _, _, rfl, Ex.mut ((((e34.trans e5).trans e6)).trans e7) hp, ?_, ?_⟩
        · rw [upd_same, take_more (l := stepLs l) (i := i) (x := stepC (l.map (·.2)) i s) (by rw [Nat.zero_add] at hstep; exact hstep), List.map_append]
          rfl
        · rw [upd_ne (Ne.symm npt)]
          exact (((e4.trans e5).trans e6).trans e7) _ _ h4
    · rintro σ' H' ⟨x, y, z, u, w, rfl, e3, h3, h4⟩
      have hstL : (stepLs l).length = l.length := stepsFrom_len _ _ _
      rw [List.take_of_length_le (by omega)] at h3
      exact s_ret (ev_var rfl) fun H4 e4 => k p H4 hp (e3.trans e4) (e4 _ _ h3)

end SB

set_option maxHeartbeats 4000000
namespace SB
open PySem PySem.Spec PyProof.Rows L2
open TL (tl)
open Evl
variable {P : Program} {w : World} {K : PySem.W.Frag} {mg : Str → Option Value} {base : Heap}


theorem robot_s : (tl ("robot " : Str)).length = 6 := by decide +kernel
theorem brace_s : tl (" {" : Str) = [32, 123] := by decide +kernel
theorem close_s : ("}" : Str) = mkS [125] := by decide +kernel
theorem shelf_s : (tl ("shelf " : Str)).length = 6 := by decide +kernel
theorem line_s : tl ("\n" : Str) = [10] := by decide +kernel
theorem el_eq {te : TE} {σ : L2.St} {H : Hp} {xs ys : List V} (h : EvL te σ H xs) (e : xs = ys) : EvL te σ H ys := e ▸ h
theorem sum_le {k : Nat} : ∀ ys : List Str, (∀ y ∈ ys, y.length ≤ k) → (ys.map (·.length)).sum ≤ ys.length * k
  | [], _ => Nat.zero_le _
  | y :: r, h => by
    have h1 := h y (List.mem_cons_self ..)
    have h2 := sum_le r fun z hz => h z (List.mem_cons_of_mem _ hz)
    simp only [List.map_cons, List.sum_cons, List.length_cons, Nat.add_mul, Nat.one_mul]
    omega
theorem joinL_len {S : List Nat} {k : Nat} : ∀ ps : List (List Nat), (∀ p ∈ ps, p.length ≤ k) → (TL.joinL S ps).length ≤ ps.length * (k + S.length)
  | [], _ => Nat.zero_le _
  | [p], h => by
    have h1 := h p (List.mem_cons_self ..)
    show p.length ≤ (0 + 1) * _
    rw [Nat.zero_add, Nat.one_mul]
    omega
  | p :: q :: r, h => by
    have h1 := h p (List.mem_cons_self ..)
    have h2 := joinL_len (S := S) (q :: r) fun z hz => h z (List.mem_cons_of_mem _ hz)
    have e : TL.joinL S (p :: q :: r) = p ++ (S ++ TL.joinL S (q :: r)) := by simp [TL.joinL]
    rw [e]
    simp only [List.length_append, List.length_cons] at h2 ⊢
    have : (r.length + 1 + 1) * (k + S.length) = (r.length + 1) * (k + S.length) + (k + S.length) := by rw [Nat.add_mul (r.length + 1), Nat.one_mul]
    omega
def hdC (P : Plm) : List Nat := tl ("shelf " : Str) ++ TL.joinL [32] (P.bx.map TL.numL) ++ [59]
/-- the lines after i robots -/
def lnsP (P : Plm) (i : Nat) : List (List Nat) := hdC P :: ((if 0 < i then robC P.a P.l0 else []) ++ (if 1 < i then robC P.b P.l1 else []))
theorem hdC_len {P : Plm} (h : PlOk P) : (hdC P).length ≤ 60 := by
  unfold hdC
  have := joinL_len (S := [32]) (k := 2) (P.bx.map TL.numL) fun p hp => by
    obtain ⟨n, hn, rfl⟩ := List.mem_map.mp hp
    have := h.most n hn
    exact TL.numL_len (by decide) (by omega)
  have e := shelf_s
  have e2 := h.hi
  simp only [List.length_append, List.length_cons, List.length_nil, List.length_map] at this ⊢
  omega
theorem robC_small {a : Nat} {l : List Lk} (ha : a < 12) (h : LkOk l) : ∀ x ∈ robC a l, x.length ≤ 60 := fun x hx => by
  rcases List.mem_cons.mp hx with hx | hx
  · subst hx
    have := TL.numL_len (n := a) (k := 2) (by decide) (by omega)
    have e := robot_s
    simp only [List.length_append, List.length_cons, List.length_nil]
    omega
  · rcases List.mem_append.mp hx with hx | hx
    · have := steps_small l 0 (fun s hs => cmd_len (h.word s hs)) x hx
      omega
    · rw [List.mem_singleton.mp hx]
      decide
theorem robC_len {a : Nat} {l : List Lk} : (robC a l).length = l.length + 2 := by
  unfold robC
  simp only [List.length_append, List.length_cons, List.length_nil]
  rw [show (stepLs l).length = l.length from stepsFrom_len _ _ _]
theorem planC_small {P : Plm} (h : PlOk P) : ∀ x ∈ planC P, x.length ≤ 60 := fun x hx => by
  have e := h.hi
  rcases List.mem_cons.mp hx with hx | hx
  · rw [hx]
    exact hdC_len h
  · rcases List.mem_append.mp hx with hx | hx
    · exact robC_small (Nat.lt_of_lt_of_le h.la e) h.k0 x hx
    · exact robC_small (Nat.lt_of_lt_of_le h.lb e) h.k1 x hx
theorem planC_len {P : Plm} (h : PlOk P) : (planC P).length ≤ 45 := by
  have e1 := h.k0.len
  have e2 := h.k1.len
  show (robC P.a P.l0 ++ robC P.b P.l1).length + 1 ≤ 45
  rw [List.length_append, robC_len, robC_len]
  omega
theorem planText_join (P : Plm) : Txt.join ("\n" : Str) ((planC P).map mkS) = planText P := by
  apply tl_inj
  rw [TL.join_eq, TL.tl_join, line_s, List.map_map]
  show TL.joinL [10] ((planC P).map fun c => c) = _
  rw [List.map_id']
  rfl
def spTxt (K : PySem.W.Frag) : Sp := fun vs H Q _ => ∃ v P, vs = [v] ∧ PlOb K H v P ∧ PlOk P ∧ RetV (.str (planText P)) H Q
def spFmt : Sp := fun vs H Q _ => ∃ z P, vs = [.str z] ∧ Reads z P ∧ PlOk P ∧ RetV (.str (planText P)) H Q
def spCnt : Sp := fun vs H Q _ => ∃ z P, vs = [.str z] ∧ Reads z P ∧ RetN (.tup [.int P.l0.length, .int P.l1.length]) H Q

theorem ok_plan_text (T : Txt K mg) : FnR P w K mg base (L2.CX P w) 3 (He.ga K "plan_text") (spTxt K) := by
  have G_step_lines := ok_step_lines (P := P) (w := w) (base := base) T
  have KP_step_lines : PySem.W.keepIn K (.ref (He.ga K "step_lines")) = true := by
    obtain ⟨_, F⟩ := T.F_step_lines
    exact F.kp
  obtain ⟨fd, F⟩ := T.F_plan_text
  have B : Binds K fd P_plan_text [] := F.bindsN fun _ _ _ _ _ _ us hl => match us, hl with | [_], _ => rfl
  refine fnR_of F B (F.ok sc_plan_text (fun vs H Q E h => ?_) (fun cdv A outer s H vs Q E hr h => ?_))
  · obtain ⟨v, Pl, rfl, _⟩ := h
    rfl
  · have hu := hu_of hr
    obtain ⟨v, Pl, rfl, hb, hO, k⟩ := h
    refine ⟨_, (pss_cons (ps_set (i := 1) sc_plan_text.nd rfl (Or.inl rfl) (pe_join pe_str (pe_lc (own := [("number", 5)]) rfl sc_plan_text.nd (pi_list (pe_fld (pv 0) rfl)) (blkOk_by (own := [("number", 5)]) (N := N_plan_text) (sc := defScope s_plan_text) (by decide +kernel)) (fun _ _ _ _ _ => by exact pg_name (i := 5) sc_plan_text.nd rfl (Or.inl rfl)) (fun _ _ _ _ _ => by exact pts_nil) (fun _ _ _ _ _ => by exact (pe_callTy call_str_int (by rfl) T.b_str (by decide +kernel) (pa_cons (pv 5) pa_nil))))))
        (pss_cons (ps_set (i := 2) sc_plan_text.nd rfl (Or.inl rfl) (pe_lst (pa_cons (pe_joined (.cons pe_str (.cons (pe_fmt (pv 1)) (.cons pe_str .nil)))) pa_nil)))
        (pss_cons (ps_for (passes_of rfl) rfl (RZ.pi_zipA (by rfl) T.b_zip (pa_cons (pe_fld (pv 0) rfl) (pa_cons (pe_fld (pv 0) rfl) pa_nil))) (pg_tup rfl (pgs_cons (pg_name (i := 3) sc_plan_text.nd rfl (Or.inl rfl)) (pgs_cons (pg_name (i := 4) sc_plan_text.nd rfl (Or.inl rfl)) pgs_nil))) (pss_cons (ps_expr (pe_bm PySem.F.plainAttrs_list PySem.F.slot_list_append PySem.F.type_list_append mt_append (pv 2) (pa_cons (pe_op op_add_str (pe_op op_add_str pe_str (pe_callTy call_str_int (by rfl) T.b_str (by decide +kernel) (pa_cons (pv 3) pa_nil))) pe_str) pa_nil)))
        (pss_cons (ps_expr (pe_bm PySem.F.plainAttrs_list PySem.F.slot_list_extend PySem.F.type_list_extend mt_extend (pv 2) (pa_cons (pe_callR G_step_lines (hr.mono (by decide)) T.g_step_lines KP_step_lines px (pa_cons (pv 4) pa_nil)) pa_nil)))
        (pss_one (ps_expr (pe_bm PySem.F.plainAttrs_list PySem.F.slot_list_append PySem.F.type_list_append mt_append (pv 2) (pa_cons pe_str pa_nil)))))))
        (pss_one (ps_ret (pe_join pe_str (pv 2))))))), ?_⟩
    obtain ⟨x, dx, bl, ft, st, s0, s1, w0, w1, rfl, h⟩ := hb
    have hhi := hO.hi
    have hla := hO.la
    have hlb := hO.lb
    have sz : 1000 < sizeLine := by decide
    have hb2 : ∀ y ∈ Pl.bx.map numS, y.length ≤ 2 := fun y hy => by
      obtain ⟨n, hn, rfl⟩ := List.mem_map.mp hy
      have := hO.most n hn
      exact numS_len (by omega)
    have hsum := sum_le _ hb2
    rw [List.length_map] at hsum
    have b1 : ((" " : Str)).length = 1 := by decide +kernel
    have etl : tl (Txt.join (" " : Str) (Pl.bx.map numS)) = TL.joinL [32] (Pl.bx.map TL.numL) := by
      rw [TL.join_eq, TL.tl_join, blank1, List.map_map]
      exact congrArg (TL.joinL [32]) (List.map_congr_left fun n _ => numS_tl n)
    have hjl : (Txt.join (" " : Str) (Pl.bx.map numS)).length ≤ 60 := by
      rw [← len_tl, etl]
      have := hdC_len hO
      unfold hdC at this
      simp only [List.length_append] at this
      omega
    refine q_asg (v := .str (Txt.join " " (Pl.bx.map numS))) (ev_joinN ev_c (el_eq (el_lcL (xs := Pl.bx.map fun (n : Nat) => V.int n) (fun _ => true) (fun i => V.str (numS (Pl.bx.getD i 0))) (ev_fld (ev_var rfl) h.ob T.c_Plan T.n_Plan_boxes rfl) (sq_of h.bxs) (by rw [List.length_map]; omega) (fun _ => rfl) (fun _ _ _ _ _ => et_yes) fun i y H3 e3 hy _ => ?_) (given_all (by rw [List.length_map, List.length_map, List.length_map]) fun i y hy => ?_)) (by rw [List.length_map, b1]; omega)) fun H1 e1 => ?_
    · rw [List.getElem?_map] at hy
      cases q : Pl.bx[i]? with
      | none => rw [q] at hy; cases hy
      | some n =>
        rw [q] at hy
        obtain rfl : V.int n = y := Option.some.inj hy
        have := hO.most n (List.mem_of_getElem? q)
        rw [List.getD_eq_getElem?_getD, q]
        exact ev_strI (n := n) (ev_var rfl) (by omega)
    · rw [List.map_map, List.getElem?_map] at hy
      cases q : Pl.bx[i]? with
      | none => rw [q] at hy; cases hy
      | some n =>
        rw [q] at hy
        rw [List.getD_eq_getElem?_getD, q]
        exact Option.some.inj hy
    have s6 : (("shelf " : Str)).length = 6 := by decide +kernel
    have s1' : ((";" : Str)).length = 1 := by decide +kernel
    refine q_asgL (el_lst (vs := [V.str (mkS (hdC Pl))]) (ea_cons (ev_is (ev_js (.cons ev_c (.cons (ev_fmtS (ev_var rfl) (by omega)) (.cons ev_c .nil))) (by simp only [List.map_cons, List.map_nil, List.sum_cons, List.sum_nil]; omega)) (congrArg V.str (tl_inj ?_))) ea_nil) (by show 1 ≤ 100000; decide)) fun p H2 hp2 e2 h2 => ?_
    · rw [catS_tl]
      show tl Str.empty ++ (tl ("shelf " : Str) ++ (tl (Txt.join (" " : Str) (Pl.bx.map numS)) ++ (tl (";" : Str) ++ []))) = hdC Pl
      rw [etl, semi1, tl_empty]
      unfold hdC
      simp only [List.nil_append, List.append_assoc, List.append_nil]
    have e02 := e1.trans e2
    refine q_forZipT (xs := [.int Pl.a, .int Pl.b]) (ys := [.ref s0, .ref s1]) (ea_cons (ev_fld (ev_var rfl) (e02 _ _ h.ob) T.c_Plan T.n_Plan_first_cells rfl) (ea_cons (ev_fld (ev_var rfl) (e02 _ _ h.ob) T.c_Plan T.n_Plan_steps rfl) ea_nil)) (st_of (e02 _ _ h.fc)) (st_of (e02 _ _ h.ss)) rfl rfl
      (fun i σ' H' => ∃ (y z : Option V), σ' = [some (.ref x), some (.str (Txt.join " " (Pl.bx.map numS))), some (.ref p), y, z, none] ∧ Ex H H' ∧ H' p = some (.lst ((lnsP Pl i).map fun c => V.str (mkS c))))
      (fun H3 e3 => ⟨none, none, rfl, e02.trans e3, e3 _ _ h2⟩) (fun i σ' H' ⟨_, _, _, e, _⟩ => ⟨st_of (e _ _ h.fc), st_of (e _ _ h.ss)⟩) ?_ ?_
    · rintro i x1 y1 σ' H' H3 hx hy ⟨y, z, rfl, e3, h3⟩ e4
      have hp : H p = none := fresh_back e1 hp2
      obtain ⟨n, l, rfl, hl, hOl, hn, hlen, hnx⟩ : ∃ (n : Nat) (l : List Lk), x1 = .int n ∧ LksAt H y1 l ∧ LkOk l ∧ n < 12 ∧ (lnsP Pl i).length ≤ 25 ∧ lnsP Pl (i + 1) = lnsP Pl i ++ robC n l := by
        have k0 := hO.k0.len
        match i, hx, hy with
        | 0, hx, hy =>
          exact ⟨Pl.a, Pl.l0, (Option.some.inj hx).symm, by rw [← Option.some.inj hy]; exact ⟨s0, w0, rfl, h.h0, h.k0⟩, hO.k0, by omega, by show 1 ≤ 25; decide, by
            show hdC Pl :: (robC Pl.a Pl.l0 ++ []) = [hdC Pl] ++ robC Pl.a Pl.l0
            rw [List.append_nil]
            rfl⟩
        | 1, hx, hy =>
          refine ⟨Pl.b, Pl.l1, (Option.some.inj hx).symm, by rw [← Option.some.inj hy]; exact ⟨s1, w1, rfl, h.h1, h.k1⟩, hO.k1, by omega, ?_, ?_⟩
          · show (robC Pl.a Pl.l0 ++ []).length + 1 ≤ 25
            rw [List.append_nil, robC_len]
            omega
          · show hdC Pl :: (robC Pl.a Pl.l0 ++ robC Pl.b Pl.l1) = (hdC Pl :: (robC Pl.a Pl.l0 ++ [])) ++ robC Pl.b Pl.l1
            rw [List.append_nil]
            rfl
        | i + 2, hx, _ => simp at hx
      have l20 := hOl.len
      have n2 : (numS n).length ≤ 2 := numS_len (by omega)
      have r6 : (("robot " : Str)).length = 6 := by decide +kernel
      have r2 : ((" {" : Str)).length = 2 := by decide +kernel
      have e34 := e3.trans e4
      refine q_appP (P := fun v _ => v = V.str (mkS (tl ("robot " : Str) ++ TL.numL n ++ [32, 123]))) (e4 _ _ h3) (ev_var rfl) (Ev.p (ev_is (ev_op (ev_op ev_c (ev_strI (ev_var rfl) (by omega)) (rv_addS (by omega))) ev_c (rv_addS (by rw [app_len]; omega))) (congrArg V.str (tl_inj ?_))) fun _ _ => rfl) (by rw [List.length_map]; omega) fun v H5 e5 hv5 => ?_
      · rw [TL.tl_append, TL.tl_append, brace_s, numS_tl]
        rfl
      subst hv5
      have e45 := e34.trans e5
      have E5 := Ex.mut e45 hp (o := .lst ((lnsP Pl i).map (fun c => V.str (mkS c)) ++ [V.str (mkS (tl ("robot " : Str) ++ TL.numL n ++ [32, 123]))]))
      refine q_extP (P := fun v H' => ∃ q, v = .ref q ∧ H' q = some (.lst ((stepLs l).map fun c => V.str (mkS c)))) upd_same (ev_var rfl) (ep_callR (ea_cons (ev_var rfl) ea_nil) fun H6 e6 Q6 q6 => ⟨_, l, rfl, hl.ex (E5.trans e6), hOl, fun q H7 hq e7 h7 => q6 _ H7 e7 ⟨q, rfl, h7⟩⟩) fun v H6 e6 ⟨q, hv6, h6⟩ => ?_
      have hsl : (stepLs l).length = l.length := stepsFrom_len _ _ _
      refine ⟨q, _, hv6, h6, by simp only [List.length_append, List.length_map, List.length_cons, List.length_nil]; omega, ?_⟩
      have E6 := Ex.mut (E5.trans e6) hp (o := .lst (((lnsP Pl i).map (fun c => V.str (mkS c)) ++ [V.str (mkS (tl ("robot " : Str) ++ TL.numL n ++ [32, 123]))]) ++ (stepLs l).map fun c => V.str (mkS c)))
      refine s_appP (P := fun v _ => v = V.str (mkS [125])) upd_same (ev_var rfl) (Ev.p (ev_is ev_c (congrArg V.str close_s)) fun _ _ => rfl) (by simp only [List.length_append, List.length_map, List.length_cons, List.length_nil]; omega) fun v H7 e7 hv7 => ?_
      subst hv7
      refine ⟨_, _, rfl, Ex.mut (E6.trans e7) hp, ?_⟩
      rw [upd_same, hnx]
      unfold robC
      simp only [List.map_append, List.map_cons, List.map_nil, List.append_assoc, List.cons_append, List.nil_append]
    · rintro σ' H' ⟨y, z, rfl, e3, h3⟩
      have h3' : H' p = some (.lst (((planC Pl).map mkS).map V.str)) := by
        rw [List.map_map]
        exact h3
      have bnd := sum_le (k := 60) ((planC Pl).map mkS) fun y hy => by
        obtain ⟨c, hc, rfl⟩ := List.mem_map.mp hy
        exact planC_small hO c hc
      have pl := planC_len hO
      have nl : (("\n" : Str)).length = 1 := by decide +kernel
      refine s_ret (ev_is (ev_joinL ev_c (ev_var rfl) h3' (by rw [List.length_map] at bnd ⊢; rw [nl]; omega)) (congrArg V.str (planText_join Pl))) fun H4 e4 => k H4 (e3.trans e4)

theorem ok_format_plan (T : Txt K mg) : FnR P w K mg base (L2.CX P w) 9 (He.ga K "format_plan") spFmt := by
  have G_plan_text := ok_plan_text (P := P) (w := w) (base := base) T
  have KP_plan_text : PySem.W.keepIn K (.ref (He.ga K "plan_text")) = true := by
    obtain ⟨_, F⟩ := T.F_plan_text
    exact F.kp
  have G_read_plan := ok_read_plan (P := P) (w := w) (base := base) T
  have KP_read_plan : PySem.W.keepIn K (.ref (He.ga K "read_plan")) = true := by
    obtain ⟨_, F⟩ := T.F_read_plan
    exact F.kp
  obtain ⟨fd, F⟩ := T.F_format_plan
  have B : Binds K fd P_format_plan [] := F.bindsN fun _ _ _ _ _ _ us hl => match us, hl with | [_], _ => rfl
  refine fnR_of F B (F.ok sc_format_plan (fun vs H Q E h => ?_) (fun cdv A outer s H vs Q E hr h => ?_))
  · obtain ⟨z, Pl, rfl, _⟩ := h
    rfl
  · have hu := hu_of hr
    obtain ⟨z, Pl, rfl, hR, hO, k⟩ := h
    refine ⟨_, (pss_one (ps_ret (pe_callR G_plan_text (hr.mono (by decide)) T.g_plan_text KP_plan_text px (pa_cons (pe_callR G_read_plan (hr.mono (by decide)) T.g_read_plan KP_read_plan px (pa_cons (pv 0) pa_nil)) pa_nil)))), ?_⟩
    exact s_retH ⟨_, rfl, z, Pl, rfl, hR, fun v H1 e1 hv => ⟨v, Pl, rfl, hv, hO, fun H2 e2 => k H2 (e1.trans e2)⟩⟩

theorem ok_count_steps (T : Txt K mg) : FnR P w K mg base (L2.CX P w) 9 (He.ga K "count_steps") spCnt := by
  have G_read_plan := ok_read_plan (P := P) (w := w) (base := base) T
  have KP_read_plan : PySem.W.keepIn K (.ref (He.ga K "read_plan")) = true := by
    obtain ⟨_, F⟩ := T.F_read_plan
    exact F.kp
  obtain ⟨fd, F⟩ := T.F_count_steps
  have B : Binds K fd P_count_steps [] := F.bindsN fun _ _ _ _ _ _ us hl => match us, hl with | [_], _ => rfl
  refine fnR_of F B (F.ok sc_count_steps (fun vs H Q E h => ?_) (fun cdv A outer s H vs Q E hr h => ?_))
  · obtain ⟨z, Pl, rfl, _⟩ := h
    rfl
  · have hu := hu_of hr
    obtain ⟨z, Pl, rfl, hR, k⟩ := h
    refine ⟨_, (pss_cons (ps_asg (pe_fld (pe_callR G_read_plan (hr.mono (by decide)) T.g_read_plan KP_read_plan px (pa_cons (pv 0) pa_nil)) rfl) (pg_tup rfl (pgs_cons (pg_name (i := 1) sc_count_steps.nd rfl (Or.inl rfl)) (pgs_cons (pg_name (i := 2) sc_count_steps.nd rfl (Or.inl rfl)) pgs_nil))))
        (pss_one (ps_ret (pe_tup (pa_cons (pe_callB call_len_seq (by rfl) T.b_len (by decide +kernel) (pa_cons (pv 1) pa_nil)) (pa_cons (pe_callB call_len_seq (by rfl) T.b_len (by decide +kernel) (pa_cons (pv 2) pa_nil)) pa_nil)))))), ?_⟩
    refine ⟨_, rfl, z, Pl, rfl, hR, fun v H1 e1 ⟨x, dx, bl, ft, st, s0, s1, w0, w1, hv, h⟩ => ?_⟩
    subst hv
    refine ⟨x, _, dx, _, _, rfl, h.ob, T.c_Plan, T.n_Plan_steps, rfl, st, [.ref s0, .ref s1], rfl, st_of h.ss, rfl, _, _, rfl, _, _, rfl, rfl, ?_⟩
    have l0 := h.k0.len
    have l1 := h.k1.len
    refine s_retU (eu_tup (ea_cons (ev_len (ev_var rfl) (sq_of h.h0)) (ea_cons (ev_len (ev_var rfl) (sq_of h.h1)) ea_nil)) (by show 2 ≤ 100000; decide)) fun p H2 hp e2 h2 => ?_
    rw [l0, l1] at h2
    exact k p H2 (fresh_back e1 hp) (e1.trans e2) h2

end SB

set_option maxHeartbeats 4000000
namespace SB
open PySem PySem.Spec PyProof.Rows L2
open TL (tl)
open Evl
variable {P : Program} {w : World} {K : PySem.W.Frag} {mg : Str → Option Value} {base : Heap}


/-- the source of the draws -/
def DOk (xs : List V) : Prop := ∃ (s c : Nat) (bs : List Nat), xs = .int s :: .int c :: bs.map (fun (n : Nat) => V.int n) ∧ bs.length ≤ 100
def DAt (a : Addr) (H : Hp) : Prop := ∃ xs, H a = some (.lst xs) ∧ DOk xs
theorem DAt.ex {a : Addr} {H H' : Hp} (e : Ex H H') (h : DAt a H) : DAt a H' := by
  obtain ⟨xs, h1, h2⟩ := h
  exact ⟨xs, e _ _ h1, h2⟩
def spRandom (K : PySem.W.Frag) : Sp := fun vs H Q _ => ∃ sc, ∃ ns : List Int, ∃ salt : Nat, vs = [.ref sc, .int salt] ∧ SqL K H sc (ns.map V.int) ∧ ns.length ≤ 63 ∧ ∀ p H', H p = none → Ex H H' → DAt p H' → Q (.ref p) H'
def spBelow : Sp := fun vs H Q _ => ∃ a, ∃ lim : Nat, vs = [.ref a, .int lim] ∧ DAt a H ∧ 0 < lim ∧ lim < 1000000 ∧ ∀ (r : Nat) H', r < lim → ExN a H H' → DAt a H' → Q (.int r) H'
theorem at_nat {xs : List V} {i : Nat} {v : V} (h : xs[i]? = some v) : atI xs (i : Int) = some v := by
  unfold atI
  have hi : i < xs.length := (List.getElem?_eq_some_iff.mp h).1
  rw [ixN_nat hi]
  exact h
theorem sqi_nat {i n : Nat} (h : i < n) : seqIndex? (i : Int) n = some i := by
  have h1 : ¬ ((i : Int) < 0) := by omega
  have h2 : (0 : Int) ≤ i := by omega
  have h3 : (i : Int) < n := by omega
  unfold seqIndex?
  simp only [h1, if_false, h2, h3, decide_true, Bool.and_true, if_true, Int.toNat_natCast]
theorem ev_abs {ta : TE} {σ : L2.St} {H : Hp} {i : Int} (h : Ev ta σ H (.int i)) : Ev (tCB (fun xs H Q => ∃ i, xs = [.int i] ∧ Q (.int (if i < 0 then -i else i)) H) (tCons ta tNil)) σ H (.int (if i < 0 then -i else i)) := fun H1 e Q q => h H1 e _ fun H2 e2 => ⟨i, rfl, q H2 e2⟩

theorem ok__law_random (T : Txt K mg) : FnR P w K mg base (L2.CX P w) 1 (He.ga K "_law_random") (spRandom K) := by
  obtain ⟨fd, F⟩ := T.F__law_random
  have B : Binds K fd P__law_random [] := F.bindsN fun _ _ _ _ _ _ us hl => match us, hl with | [_, _], _ => rfl
  refine fnR_of F B (F.ok sc__law_random (fun vs H Q E h => ?_) (fun cdv A outer s H vs Q E hr h => ?_))
  · obtain ⟨sc, ns, salt, rfl, _⟩ := h
    rfl
  · have hu := hu_of hr
    obtain ⟨sc, ns, salt, rfl, hs, hl, k⟩ := h
    refine ⟨_, (pss_cons (ps_set (i := 2) sc__law_random.nd rfl (Or.inl rfl) (pv 1))
        (pss_cons (ps_for (passes_of rfl) rfl (pi_list (pv 0)) (pg_name (i := 3) sc__law_random.nd rfl (Or.inl rfl)) (pss_one (ps_set (i := 2) sc__law_random.nd rfl (Or.inl rfl) (pe_op op_modN (pe_op op_add (pe_op op_mul (pv 2) pe_int) (pe_callB call_abs (by rfl) T.b_abs (by decide +kernel) (pa_cons (pv 3) pa_nil))) pe_int))))
        (pss_one (ps_ret (pe_op op_cat (pe_lst (pa_cons (pv 2) (pa_cons pe_int pa_nil))) (pe_lc (own := [("_law_cell", 3)]) rfl sc__law_random.nd (pi_list (pv 0)) (blkOk_by (own := [("_law_cell", 3)]) (N := N__law_random) (sc := defScope s__law_random) (by decide +kernel)) (fun _ _ _ _ _ => by exact pg_name (i := 3) sc__law_random.nd rfl (Or.inl rfl)) (fun _ _ _ _ _ => by exact (pts_one (pt_cmpR op_ge (pv 3) (pe_op op_pow pe_int pe_int) (nomark _)))) (fun _ _ _ _ _ => by exact (pv 3)))))))), ?_⟩
    refine q_asg (ev_var rfl) fun H1 e1 => ?_
    refine q_forL (ev_var rfl) (ex_l e1 hs) (fun i σ' H' => ∃ (s : Nat) (y : Option V), σ' = [some (.ref sc), some (.int salt), some (.int s), y] ∧ Ex H H') (fun H2 e2 => ⟨salt, none, rfl, e1.trans e2⟩) (fun i σ' H' _ ⟨_, _, _, e⟩ => ex_l e hs) ?_ ?_
    · rintro i x σ' H' hx ⟨s, y, rfl, e⟩
      obtain ⟨n, hn, rfl⟩ := List.mem_map.mp (List.mem_of_getElem? hx)
      refine s_asg (v := .int ((((s : Int) * 31 + (if n < 0 then -n else n)).fmod 2147483647).toNat : Nat)) (ev_is (ev_op (ev_op (ev_op (ev_var rfl) ev_c (rv_I (.inr ⟨by decide, by decide⟩))) (ev_abs (ev_var rfl)) rv_I0) ev_c (rv_I (by decide))) (congrArg V.int ?_)) fun H2 e2 => ⟨_, _, rfl, e.trans e2⟩
      rw [Int.toNat_of_nonneg (Int.fmod_nonneg_of_pos _ (by decide))]
    · rintro σ' H' ⟨s, y, rfl, e⟩
      refine s_retH ((el_lst (vs := [.int s, .int (0 : Nat)]) (ea_cons (ev_var rfl) (ea_cons ev_c ea_nil)) (by show 2 ≤ 100000; decide)) H' (Ex.refl H') _ fun p H2 hp e2 h2 => ?_)
      refine (el_lcL (xs := ns.map V.int) (fun i => decide ((10 : Int) ^ 18 ≤ ns.getD i 0)) (fun i => V.int (ns.getD i 0)) (ev_var rfl) (ex_l (e.trans e2) hs) (by rw [List.length_map]; omega) (fun _ => rfl) (fun i x H3 e3 hx => ?_) (fun i x H3 e3 hx _ => ?_)) H2 (Ex.refl H2) _ fun q H3 hq e3 h3 => ?_
      · rw [List.getElem?_map] at hx
        cases z : ns[i]? with
        | none => rw [z] at hx; cases hx
        | some n =>
          rw [z] at hx
          obtain rfl : V.int n = x := Option.some.inj hx
          rw [List.getD_eq_getElem?_getD, z]
          exact et_test (ev_op (ev_var rfl) (ev_op ev_c ev_c (rv_I (C := CPow) ⟨by decide, by decide, by decide⟩)) rv_I0)
      · rw [List.getElem?_map] at hx
        cases z : ns[i]? with
        | none => rw [z] at hx; cases hx
        | some n =>
          rw [z] at hx
          obtain rfl : V.int n = x := Option.some.inj hx
          rw [List.getD_eq_getElem?_getD, z]
          exact ev_var rfl
      have hlen : (given (ns.map V.int).length (fun i => decide ((10 : Int) ^ 18 ≤ ns.getD i 0)) (fun i => V.int (ns.getD i 0))).length ≤ 63 := by
        unfold given
        rw [List.length_map]
        exact Nat.le_trans (List.length_filter_le _ _) (by rw [List.length_range, List.length_map]; exact hl)
      refine ⟨p, q, _, _, rfl, rfl, e3 _ _ h2, h3, by have : 1000 < sizeLine := by decide
                                                      simp only [List.length_cons, List.length_nil]; omega, fun r hr => k r _ (fresh_back ((e.trans e2).trans e3) hr) (((e.trans e2).trans e3).trans (Ex.new hr)) ⟨_, upd_same, s, 0, ((List.range (ns.map V.int).length).filter fun i => decide ((10 : Int) ^ 18 ≤ ns.getD i 0)).map (fun i => (ns.getD i 0).toNat), ?_, ?_⟩⟩
      · show V.int s :: V.int (0 : Nat) :: given _ _ _ = _
        congr 2
        unfold given
        rw [List.map_map]
        refine List.map_congr_left fun i hi => ?_
        have := of_decide_eq_true (List.mem_filter.mp hi).2
        show V.int (ns.getD i 0) = V.int (((ns.getD i 0).toNat : Nat) : Int)
        rw [Int.toNat_of_nonneg (by omega)]
      · rw [List.length_map]
        unfold given at hlen
        rw [List.length_map] at hlen
        omega

theorem ok__law_below (T : Txt K mg) : FnR P w K mg base (L2.CX P w) 1 (He.ga K "_law_below") spBelow := by
  obtain ⟨fd, F⟩ := T.F__law_below
  have B : Binds K fd P__law_below [] := F.bindsN fun _ _ _ _ _ _ us hl => match us, hl with | [_, _], _ => rfl
  refine fnR_of F B (F.ok sc__law_below (fun vs H Q E h => ?_) (fun cdv A outer s H vs Q E hr h => ?_))
  · obtain ⟨a, lim, rfl, _⟩ := h
    rfl
  · have hu := hu_of hr
    obtain ⟨a, lim, rfl, hd, h0, h1, k⟩ := h
    refine ⟨_, (pss_cut (ps_if (pw_and (pt_cmpR op_eq (pe_ix ix_list (pv 0) pe_int (fun _ _ => rfl)) pe_int (nomark _)) (pw_and1 (pt_cmpR op_gt (pe_callB call_len_seq (by rfl) T.b_len (by decide +kernel) (pa_cons (pv 0) pa_nil)) pe_int (nomark _)))).pt (pss_one (ps_asg (pe_bm PySem.F.plainAttrs_list PySem.F.slot_list_pop PySem.F.type_list_pop mt_popAt (pv 0) (pa_cons pe_int pa_nil)) (pg_sub (pv 0) pe_int set_list))) pss_nil)
        (pss_cons (ps_if (pt_cmpR op_gt (pe_ix ix_list (pv 0) pe_int (fun _ _ => rfl)) pe_int (nomark _)) (pss_cons (ps_set (i := 2) sc__law_below.nd rfl (Or.inl rfl) (pe_op op_modN (pe_ix ix_list (pv 0) pe_int (fun _ _ => rfl)) (pv 1)))
        (pss_cons (ps_asg (pe_op op_fdivN (pe_ix ix_list (pv 0) pe_int (fun _ _ => rfl)) (pv 1)) (pg_sub (pv 0) pe_int set_list))
        (pss_one (ps_ret (pv 2))))) pss_nil)
        (pss_cons (ps_asg (pe_op op_modN (pe_op op_add (pe_op op_mul (pe_ix ix_list (pv 0) pe_int (fun _ _ => rfl)) pe_int) pe_int) pe_int) (pg_sub (pv 0) pe_int set_list))
        (pss_one (ps_ret (pe_op op_modN (pe_op op_fdivN (pe_ix ix_list (pv 0) pe_int (fun _ _ => rfl)) pe_int) (pv 1))))))), ?_⟩
    obtain ⟨xs, hx, s, c, bs, rfl, hbl⟩ := hd
    refine ⟨fun σ' H' => σ' = [some (.ref a), some (.int lim), none] ∧ ExN a H H' ∧ DAt a H', ?_, ?_⟩
    · refine s_if (b := decide (c = 0) && decide (2 < bs.length + 2)) (et_and (et_test (ev_is (ev_op (ev_op (ev_var rfl) ev_c (rv_ixL (i := ((1 : Nat) : Int)) (v := .int c) (sq_of hx) (at_nat rfl))) ev_c (rv_eq rfl)) ?_)) fun _ => et_test (ev_is (ev_op (ev_len (ev_var rfl) (sq_of hx)) ev_c rv_I0) ?_)) (fun hb H1 e1 => ?_) (fun hb H1 e1 => ⟨rfl, ExN.of e1, _, e1 _ _ hx, s, c, bs, rfl, hbl⟩)
      · show V.bl (decide (V.int c = V.int 0)) = _
        congr 1
        apply decide_eq_decide.mpr
        constructor
        · intro h
          have := V.int.inj h
          omega
        · intro h
          rw [h]
          rfl
      · show V.bl _ = V.bl _
        congr 1
        apply decide_eq_decide.mpr
        simp only [List.length_cons, List.length_map]
        omega
      · obtain ⟨h1, h2⟩ := Bool.and_eq_true_iff.mp hb
        have h2 := of_decide_eq_true h2
        cases bs with
        | nil => simp at h2
        | cons b r =>
          exact ⟨.ref a, rfl, Or.inl ⟨rfl, _, sq_of (e1 _ _ hx)⟩, a, _, 2, 2, .int b, rfl, rfl, e1 _ _ hx, by decide, by decide, sqi_nat (i := 2) (by show 2 < (r.map (fun (n : Nat) => V.int n)).length + 1 + 1 + 1; omega), rfl, .ref a, rfl, a, _, 1, 1, rfl, rfl, upd_same, ixN_nat (j := 1) (by show 1 < (r.map (fun (n : Nat) => V.int n)).length + 1 + 1; omega), rfl, fun z o nz hz => by
            rw [upd_ne nz, upd_ne nz]
            exact e1 _ _ hz, _, upd_same, s, b, r, rfl, by simp only [List.length_cons] at hbl; omega⟩
    rintro σ' H1 ⟨rfl, x1, xs, hx, s, c, bs, rfl, hbl⟩
    have pos : (lim : Int) ≠ 0 := by omega
    have lb : (lim : Int).natAbs < 1073741824 := by omega
    refine q_when (b := decide (0 < c)) (et_test (ev_is (ev_op (ev_op (ev_var rfl) ev_c (rv_ixL (i := ((1 : Nat) : Int)) (v := .int c) (sq_of hx) (at_nat rfl))) ev_c rv_I0) ?_)) (fun hb H2 e2 => ?_) (fun hb H2 e2 => ?_)
    · show V.bl _ = V.bl _
      congr 1
      apply decide_eq_decide.mpr
      omega
    · refine q_asg (v := .int ((c % lim : Nat) : Int)) (ev_is (ev_op (ev_op (ev_var rfl) ev_c (rv_ixL (i := ((1 : Nat) : Int)) (v := .int c) (sq_of (e2 _ _ hx)) (at_nat rfl))) (ev_var rfl) (rv_I pos)) (congrArg V.int ?_)) fun H3 e3 => ?_
      · rw [Int.fmod_eq_emod_of_nonneg _ (by omega)]
        omega
      have e23 := e2.trans e3
      refine q_setL (j := 1) (v := .int ((c / lim : Nat) : Int)) (e23 _ _ hx) (ev_is (ev_op (ev_op (ev_var rfl) ev_c (rv_ixL (i := ((1 : Nat) : Int)) (v := .int c) (sq_of (e23 _ _ hx)) (at_nat rfl))) (ev_var rfl) (rv_I ⟨pos, lb⟩)) (congrArg V.int ?_)) (ev_var rfl) ev_c (by show 1 < _ + 1 + 1; omega) fun H4 e4 => ?_
      · rw [Int.fdiv_eq_ediv_of_nonneg _ (by omega)]
        omega
      exact s_ret (ev_var rfl) fun H5 e5 => k _ H5 (Nat.mod_lt _ h0) (fun z o nz hz => e5 _ _ (by
        rw [upd_ne nz]
        exact (e23.trans e4) _ _ (x1 _ _ nz hz))) ⟨_, e5 _ _ upd_same, s, c / lim, bs, rfl, hbl⟩
    · refine q_setL (j := 0) (v := .int ((((s : Int) * 48271 + 11).fmod 2147483647).toNat : Nat)) (e2 _ _ hx) (ev_is (ev_op (ev_op (ev_op (ev_op (ev_var rfl) ev_c (rv_ixL (i := ((0 : Nat) : Int)) (v := .int s) (sq_of (e2 _ _ hx)) (at_nat rfl))) ev_c (rv_I (.inr ⟨by decide, by decide⟩))) ev_c rv_I0) ev_c (rv_I (by decide))) (congrArg V.int ?_)) (ev_var rfl) ev_c (by show 0 < _ + 1 + 1; omega) fun H3 e3 => ?_
      · rw [Int.toNat_of_nonneg (Int.fmod_nonneg_of_pos _ (by decide))]
      generalize (((s : Int) * 48271 + 11).fmod 2147483647).toNat = s1
      refine s_ret (v := .int ((s1 / 64 % lim : Nat) : Int)) (ev_is (ev_op (ev_op (ev_op (ev_var rfl) ev_c (rv_ixL (i := ((0 : Nat) : Int)) (v := .int s1) (sq_of upd_same) (at_nat rfl))) ev_c (rv_I (C := CDivN) ⟨by decide, by decide⟩)) (ev_var rfl) (rv_I pos)) (congrArg V.int ?_)) fun H4 e4 => k _ H4 (Nat.mod_lt _ h0) (fun z o nz hz => e4 _ _ (by
        rw [upd_ne nz]
        exact (e2.trans e3) _ _ (x1 _ _ nz hz))) ⟨_, e4 _ _ upd_same, s1, c, bs, rfl, hbl⟩
      rw [Int.fdiv_eq_ediv_of_nonneg _ (by decide), Int.fmod_eq_emod_of_nonneg _ (by omega), Int.natCast_emod, Int.natCast_ediv]
      rfl

end SB

set_option maxHeartbeats 4000000
namespace SB
open PySem PySem.Spec PyProof.Rows L2
open TL (tl)
open Evl
variable {P : Program} {w : World} {K : PySem.W.Frag} {mg : Str → Option Value} {base : Heap}


/-- steps as they are drawn -/
structure Drawn (l : List Lk) : Prop where
  lo : 1 ≤ l.length
  hi : l.length ≤ 8
  cmd : ∀ s ∈ l, s.1 ∈ commands
  tgt : ∀ s ∈ l, ∀ t, s.2 = some t → t < l.length
  way : ∀ s ∈ l, s.2.isSome = decide (s.1 ∈ jumps)
theorem Drawn.lk {l : List Lk} (h : Drawn l) : LkOk l := ⟨by have := h.hi; omega, h.cmd, h.tgt⟩
def drawnB (n : Nat) (s : Lk) : Bool := decide (s.1 ∈ commands) && (match s.2 with
  | none => true
  | some t => decide (t < n)) && (s.2.isSome == decide (s.1 ∈ jumps))
theorem drawn_of {l : List Lk} (h1 : 1 ≤ l.length) (h2 : l.length ≤ 8) (h : ∀ s ∈ l, drawnB l.length s = true) : Drawn l := by
  refine ⟨h1, h2, fun s hs => ?_, fun s hs t ht => ?_, fun s hs => ?_⟩
  all_goals
    have q := h s hs
    unfold drawnB at q
    simp only [Bool.and_eq_true] at q
  · exact of_decide_eq_true q.1.1
  · have := q.1.2
    rw [ht] at this
    exact of_decide_eq_true this
  · exact eq_of_beq q.2
def spSteps (K : PySem.W.Frag) : Sp := fun vs H Q _ => ∃ a, vs = [.ref a, .int 8] ∧ DAt a H ∧ ∀ p us l H', H p = none → ExN a H H' → DAt a H' → H' p = some (.lst us) → All (LkAt H') us l → Drawn l → Q (.ref p) H'
theorem fr_of {a p : Addr} {H H' : Hp} (e : ExN a H H') (d : DAt a H') (h : H' p = none) : H p = none := by
  cases w : H p with
  | none => rfl
  | some o =>
    by_cases c : p = a
    · subst c
      obtain ⟨xs, h1, _⟩ := d
      rw [h1] at h
      cases h
    · rw [e p o c w] at h
      cases h
theorem DAt.put {a p : Addr} {H : Hp} {o : HO} (d : DAt a H) (h : H p = none) : DAt a (upd H p o) := d.ex (Ex.new h)
theorem DAt.ne {a p : Addr} {H : Hp} (d : DAt a H) (h : H p = none) : p ≠ a := by
  intro z
  subst z
  obtain ⟨xs, h1, _⟩ := d
  rw [h1] at h
  cases h
theorem ExN.new {a p : Addr} {H H' : Hp} {o : HO} (e : ExN a H H') (h : H' p = none) : ExN a H (upd H' p o) := e.trans (ExN.of (Ex.new h))
/-- p was new: it may change -/
theorem ExN.mut {a p : Addr} {H H' : Hp} {o : HO} (e : ExN a H H') (h : H p = none) : ExN a H (upd H' p o) := fun z o' nz hz => by
  rw [upd_ne (fun c => by rw [c, h] at hz; cases hz)]
  exact e z o' nz hz
theorem DAt.mut {a p : Addr} {H : Hp} {o : HO} (d : DAt a H) (n : p ≠ a) : DAt a (upd H p o) := by
  obtain ⟨xs, h1, h2⟩ := d
  exact ⟨xs, by rw [upd_ne (Ne.symm n)]; exact h1, h2⟩
theorem LkAt.exn {a : Addr} {H H' : Hp} {v : V} {s : Lk} (e : ExN a H H') (d : DAt a H) (h : LkAt H v s) : LkAt H' v s := by
  obtain ⟨p, h1, h2⟩ := h
  refine ⟨p, h1, e p _ ?_ h2⟩
  intro z
  subst z
  obtain ⟨xs, h3, _⟩ := d
  rw [h3] at h2
  cases h2
def EtD (a : Addr) (t : TT) (σ : L2.St) (H : Hp) : Prop := ∀ Q : Bool → Hp → Prop, (∀ b H2, ExN a H H2 → DAt a H2 → Q b H2) → t σ H Q
section
variable {a : Addr} {σ : L2.St} {H : Hp} {D : L2.Ends} {t : TT} {tu tw tz : TS}
theorem q_ifD (h : EtD a t σ H) (h1 : ∀ H1, ExN a H H1 → DAt a H1 → tu { D with nx := tz D } σ H1) (h2 : ∀ H1, ExN a H H1 → DAt a H1 → tw { D with nx := tz D } σ H1) : tSeq (tIfS t tu tw) tz D σ H :=
  h _ fun b H1 e d => by
    cases b with
    | true => exact h1 H1 e d
    | false => exact h2 H1 e d
theorem etd_and {u : TT} {b : Bool} (h : EvT t σ H b) (h0 : DAt a H) (h2 : ∀ H1, Ex H H1 → EtD a u σ H1) : EtD a (tAnd t u) σ H := fun Q q => h H (Ex.refl H) _ fun H1 e1 => by
  cases b with
  | true => exact h2 H1 e1 Q fun b H2 e2 d2 => q b H2 ((ExN.of e1).trans e2) d2
  | false => exact q false H1 (ExN.of e1) (h0.ex e1)
end
theorem plain_at {r n : Nat} (h : r < n) (hn : n ≤ 8) : ∃ w, commands[r]? = some w ∧ w ∈ commands := by
  have : r < commands.length := by show r < 8; omega
  exact ⟨_, List.getElem?_eq_getElem this, List.getElem_mem _⟩
theorem lkAt_of {H : Hp} {p : Addr} {w : Str} {o : Option Nat} {v : V} (h : H p = some (.tup [.str w, v])) (e : v = lkV o) : LkAt H (.ref p) (w, o) := ⟨p, rfl, by rw [h, e]⟩

theorem ok__law_steps (T : Txt K mg) : FnR P w K mg base (L2.CX P w) 2 (He.ga K "_law_steps") (spSteps K) := by
  have G__law_below := ok__law_below (P := P) (w := w) (base := base) T
  have KP__law_below : PySem.W.keepIn K (.ref (He.ga K "_law_below")) = true := by
    obtain ⟨_, F⟩ := T.F__law_below
    exact F.kp
  obtain ⟨fd, F⟩ := T.F__law_steps
  have B : Binds K fd P__law_steps [] := F.bindsN fun _ _ _ _ _ _ us hl => match us, hl with | [_, _], _ => rfl
  refine fnR_of F B (F.ok sc__law_steps (fun vs H Q E h => ?_) (fun cdv A outer s H vs Q E hr h => ?_))
  · obtain ⟨a, rfl, _⟩ := h
    rfl
  · have hu := hu_of hr
    obtain ⟨a, rfl, hd, k⟩ := h
    refine ⟨_, (pss_cons (ps_par (i := 2) (j := 3) rfl sc__law_steps.nd rfl rfl (by decide) rfl rfl (pa_cons (pe_op op_add pe_int (pe_callR G__law_below (hr.mono (by decide)) T.g__law_below KP__law_below px (pa_cons (pv 0) (pa_cons (pv 1) pa_nil)))) (pa_cons (pe_lst (pa_cons pe_str (pa_cons pe_str (pa_cons pe_str (pa_cons pe_str (pa_cons pe_str (pa_cons pe_str (pa_cons pe_str (pa_cons pe_str pa_nil))))))))) pa_nil)) rfl)
        (pss_cons (ps_if (pw_and (pt_cmpR op_gt (pv 1) pe_int (nomark _)) (pw_and1 (pt_cmpR op_eq (pe_callR G__law_below (hr.mono (by decide)) T.g__law_below KP__law_below px (pa_cons (pv 0) (pa_cons pe_int pa_nil))) pe_int (nomark _)))).pt (pss_cons (ps_set (i := 4) sc__law_steps.nd rfl (Or.inl rfl) (pe_ix ix_list (pe_lst (pa_cons (pe_lst (pa_cons pe_str (pa_cons pe_str pa_nil))) (pa_cons (pe_lst (pa_cons pe_str (pa_cons pe_str pa_nil))) pa_nil))) (pe_callR G__law_below (hr.mono (by decide)) T.g__law_below KP__law_below px (pa_cons (pv 0) (pa_cons pe_int pa_nil))) (fun _ _ => rfl)))
        (pss_one (ps_ret (pe_lst (pa_cons (pe_tup (pa_cons pe_str (pa_cons pe_non pa_nil))) (pa_cons (pe_tup (pa_cons (pe_ix ix_list (pv 4) pe_int (fun _ _ => rfl)) (pa_cons pe_non pa_nil))) (pa_cons (pe_tup (pa_cons pe_str (pa_cons pe_non pa_nil))) (pa_cons (pe_tup (pa_cons (pe_ix ix_list (pv 4) pe_int (fun _ _ => rfl)) (pa_cons pe_non pa_nil))) pa_nil)))))))) pss_nil)
        (pss_cons (ps_par (i := 5) (j := 6) rfl sc__law_steps.nd rfl rfl (by decide) rfl rfl (pa_cons (pe_ix ix_list (pe_lst (pa_cons pe_int (pa_cons pe_int pa_nil))) (pe_callR G__law_below (hr.mono (by decide)) T.g__law_below KP__law_below px (pa_cons (pv 0) (pa_cons pe_int pa_nil))) (fun _ _ => rfl)) (pa_cons (pe_lst pa_nil) pa_nil)) rfl)
        (pss_cons (ps_for (passes_of rfl) rfl (pi_range1 (by rfl) T.b_range (pa_cons (pv 2) pa_nil)) (pg_name (i := 7) sc__law_steps.nd rfl (Or.inl rfl)) (pss_cons (ps_set (i := 8) sc__law_steps.nd rfl (Or.inl rfl) (pe_ix ix_list (pv 3) (pe_callR G__law_below (hr.mono (by decide)) T.g__law_below KP__law_below px (pa_cons (pv 0) (pa_cons (pv 5) pa_nil))) (fun _ _ => rfl)))
        (pss_one (ps_expr (pe_bm PySem.F.plainAttrs_list PySem.F.slot_list_append PySem.F.type_list_append mt_append (pv 6) (pa_cons (pe_tup (pa_cons (pv 8) (pa_cons (pe_ifExp (pt_cmpR op_in_seq (pv 8) (pe_lst (pa_cons pe_str (pa_cons pe_str (pa_cons pe_str pa_nil)))) (by rfl)) (pe_callR G__law_below (hr.mono (by decide)) T.g__law_below KP__law_below px (pa_cons (pv 0) (pa_cons (pv 2) pa_nil))) pe_non) pa_nil))) pa_nil))))))
        (pss_one (ps_ret (pv 6))))))), ?_⟩
    have sz : 1000 < sizeLine := by decide
    refine ⟨_, rfl, _, rfl, a, 8, rfl, hd, by decide, by decide, fun r H1 hr e1 d1 => ⟨1, r, rfl, rfl, by show 8 ≤ sizeLine; omega, fun p hp => ⟨_, _, rfl, ?_⟩⟩⟩
    have two : 2 ≤ sizeLine := by omega
    have dP := d1.put (o := .lst (commands.map V.str)) hp
    have eP := e1.new (o := .lst (commands.map V.str)) hp
    have np : p ≠ a := d1.ne hp
    refine q_ifD (a := a) (etd_and (et_test (ev_op (ev_var rfl) ev_c rv_I0)) dP (fun H2 e2 Q q => ⟨_, rfl, a, 8, rfl, dP.ex e2, by decide, by decide, fun r H3 hr e3 d3 => ⟨rfl, _, rfl, q _ _ e3 d3⟩⟩)) (fun H2 e2 d2 => ?_) (fun H2 e2 d2 => ?_)
    · refine ⟨two, fun p1 n1 => ⟨two, fun p2 n2 => ⟨two, fun p3 n3 => ⟨_, rfl, a, 2, rfl, ((d2.put n1).put n2).put n3, by decide, by decide, fun r2 H3 hr2 e3 d3 => ?_⟩⟩⟩⟩
      have m1 : ∀ H, ExN a (upd (upd (upd H2 p1 (.lst [V.str "left", V.str "right"])) p2 (.lst [V.str "right", V.str "left"])) p3 (.lst [V.ref p1, V.ref p2])) H → H p1 = some (.lst [V.str "left", V.str "right"]) ∧ H p2 = some (.lst [V.str "right", V.str "left"]) ∧ H p3 = some (.lst [V.ref p1, V.ref p2]) := fun H e => by
        have x3 := (d2.put (o := .lst [V.str "left", V.str "right"]) n1).put (o := .lst [V.str "right", V.str "left"]) n2
        refine ⟨e _ _ (d2.ne n1) ?_, e _ _ ((d2.put n1).ne n2) ?_, e _ _ (x3.ne n3) upd_same⟩
        · exact (Ex.new n3) _ _ ((Ex.new n2) _ _ upd_same)
        · exact (Ex.new n3) _ _ upd_same
      obtain ⟨m1, m2, m3⟩ := m1 H3 e3
      obtain ⟨q, w0, w1, hq1, hq2, hw⟩ : ∃ q w0 w1, [V.ref p1, V.ref p2][r2]? = some (.ref q) ∧ H3 q = some (.lst [.str w0, .str w1]) ∧ ((w0 = "left" ∧ w1 = "right") ∨ (w0 = "right" ∧ w1 = "left")) := by
        match r2, hr2 with
        | 0, _ => exact ⟨p1, _, _, rfl, m1, .inl ⟨rfl, rfl⟩⟩
        | 1, _ => exact ⟨p2, _, _, rfl, m2, .inr ⟨rfl, rfl⟩⟩
      refine ⟨p3, _, r2, _, rfl, rfl, sq_of m3, at_nat hq1, ?_⟩
      have eH : ExN a H H3 := eP.trans (e2.trans ((((ExN.refl a H2).new n1).new n2).new n3 |>.trans e3))
      refine ⟨two, fun t1 k1 => ⟨_, rfl, q, _, 0, _, rfl, rfl, sq_of ((Ex.new k1) _ _ hq2), rfl, ⟨two, fun t2 k2 => ⟨two, fun t3 k3 => ⟨_, rfl, q, _, 1, _, rfl, rfl, sq_of ((Ex.new k3) _ _ ((Ex.new k2) _ _ ((Ex.new k1) _ _ hq2))), rfl, ⟨two, fun t4 k4 => ⟨by show 4 ≤ sizeLine; omega, fun t5 k5 => ?_⟩⟩⟩⟩⟩⟩⟩
      have x2 := Ex.new (o := .tup [V.str w0, V.non]) k2
      have x3 := Ex.new (o := .tup [V.str "put", V.non]) k3
      have x4 := Ex.new (o := .tup [V.str w1, V.non]) k4
      have x5 := Ex.new (o := .lst [V.ref t1, V.ref t2, V.ref t3, V.ref t4]) k5
      have eF := ExN.new (o := .tup [V.str w1, V.non]) (((eH.new k1).new k2).new k3) k4
      have dF := DAt.put (o := .tup [V.str w1, V.non]) (((d3.put k1).put k2).put k3) k4
      refine k t5 _ [("pick", none), (w0, none), ("put", none), (w1, none)] _ (fr_of eF dF k5) (eF.new k5) (dF.put k5) upd_same (.cons ⟨t1, rfl, x5 _ _ (x4 _ _ (x3 _ _ (x2 _ _ upd_same)))⟩ (.cons ⟨t2, rfl, x5 _ _ (x4 _ _ (x3 _ _ upd_same))⟩ (.cons ⟨t3, rfl, x5 _ _ (x4 _ _ upd_same)⟩ (.cons ⟨t4, rfl, x5 _ _ upd_same⟩ .nil)))) ?_
      rcases hw with ⟨rfl, rfl⟩ | ⟨rfl, rfl⟩
      · exact drawn_of (by decide) (by decide) (by decide +kernel)
      · exact drawn_of (by decide) (by decide) (by decide +kernel)
    · refine ⟨two, fun p1 n1 => ⟨_, rfl, a, 2, rfl, d2.put n1, by decide, by decide, fun r2 H3 hr2 e3 d3 => ?_⟩⟩
      obtain ⟨lim, hlim, l0, l8⟩ : ∃ lim : Nat, [V.int 5, V.int 8][r2]? = some (.int lim) ∧ 0 < lim ∧ lim ≤ 8 := by
        match r2, hr2 with
        | 0, _ => exact ⟨5, rfl, by decide, by decide⟩
        | 1, _ => exact ⟨8, rfl, by decide, by decide⟩
      refine ⟨p1, _, r2, _, rfl, rfl, sq_of (e3 _ _ (d2.ne n1) upd_same), at_nat hlim, ⟨by show 0 ≤ sizeLine; omega, fun p2 n2 => ⟨_, _, rfl, ?_⟩⟩⟩
      have eH3 : ExN a H H3 := eP.trans (e2.trans (((ExN.refl a H2).new n1).trans e3))
      have hw3 : H3 p = some (.lst (commands.map V.str)) := e3 _ _ np ((Ex.new n1) _ _ (e2 _ _ np upd_same))
      have n2H := fr_of eH3 d3 n2
      have n2a := d3.ne n2
      refine q_forR1 (n := ((1 + r : Nat) : Int)) (ea_cons (ev_var rfl) ea_nil) (by omega) (fun i σ' H' => ∃ (y z : Option V) (us : List V) (l : List Lk), σ' = [some (.ref a), some (.int 8), some (.int ((1 + r : Nat) : Int)), some (.ref p), none, some (.int lim), some (.ref p2), y, z] ∧ ExN a H H' ∧ DAt a H' ∧ H' p = some (.lst (commands.map V.str)) ∧ H' p2 = some (.lst us) ∧ All (LkAt H') us l ∧ l.length = i ∧ ∀ s ∈ l, drawnB (1 + r) s = true)
        (fun H4 e4 => ⟨none, none, [], [], rfl, (eH3.new n2).trans (ExN.of e4), (d3.put n2).ex e4, e4 _ _ ((Ex.new n2) _ _ hw3), e4 _ _ upd_same, .nil, rfl, fun s hs => by cases hs⟩) ?_ ?_
      · rintro i σ' H4 hi ⟨y, z, us, l, rfl, e4, d4, hw4, h4, hA, hlen, hB⟩
        refine ⟨_, rfl, _, rfl, _, rfl, a, lim, rfl, d4, l0, by omega, fun r3 H5 hr3 e5 d5 => ?_⟩
        obtain ⟨w, hw1, hw2⟩ := plain_at hr3 l8
        have pn := e5 _ _ np hw4
        refine ⟨p, _, r3, .str w, rfl, rfl, sq_of pn, at_nat (by rw [List.getElem?_map, hw1]; rfl), ?_⟩
        have h5 := e5 _ _ n2a h4
        refine ⟨_, rfl, Or.inl ⟨rfl, us, sq_of h5⟩, .str w, rfl, _, rfl, by show 3 ≤ sizeLine; omega, fun p3 n3 => ?_⟩
        refine rv_isL (xs := jumps.map V.str) (sq_of upd_same) rfl rfl _ (Ex.refl _) _ fun H6 e6 => ⟨_, rfl, ?_⟩
        rw [inV_strs]
        have d6 := (d5.put (o := .lst (jumps.map V.str)) n3).ex e6
        have e56 : ExN a H5 H6 := ((ExN.refl a H5).new n3).trans (ExN.of e6)
        have hus := hA.len
        have fin : ∀ (o : Option Nat) (H7 : Hp), ExN a H6 H7 → DAt a H7 → drawnB (1 + r) (w, o) = true → ∀ t, H7 t = none → (upd H7 t (.tup [.str w, lkV o])) p2 = some (.lst us) ∧ us.length < sizeLine ∧ ∃ (y z : Option V) (us' : List V) (l : List Lk), [some (.ref a), some (.int 8), some (.int ((1 + r : Nat) : Int)), some (.ref p), none, some (.int lim), some (.ref p2), some (.int (i : Int)), some (.str w)] = [some (.ref a), some (.int 8), some (.int ((1 + r : Nat) : Int)), some (.ref p), none, some (.int lim), some (.ref p2), y, z] ∧ ExN a H (upd (upd H7 t (.tup [.str w, lkV o])) p2 (.lst (us ++ [.ref t]))) ∧ DAt a (upd (upd H7 t (.tup [.str w, lkV o])) p2 (.lst (us ++ [.ref t]))) ∧ (upd (upd H7 t (.tup [.str w, lkV o])) p2 (.lst (us ++ [.ref t]))) p = some (.lst (commands.map V.str)) ∧ (upd (upd H7 t (.tup [.str w, lkV o])) p2 (.lst (us ++ [.ref t]))) p2 = some (.lst us') ∧ All (LkAt (upd (upd H7 t (.tup [.str w, lkV o])) p2 (.lst (us ++ [.ref t])))) us' l ∧ l.length = i + 1 ∧ ∀ s ∈ l, drawnB (1 + r) s = true := fun o H7 e7 d7 hb t nt => by
          have e47 : ExN a H4 H7 := e5.trans (e56.trans e7)
          have h7 : H7 p2 = some (.lst us) := e47 _ _ n2a h4
          have h7t := (Ex.new (o := .tup [.str w, lkV o]) nt) _ _ h7
          have ntp : t ≠ p2 := Ne.symm (ne_of_none h7 nt)
          refine ⟨h7t, by omega, _, _, us ++ [.ref t], l ++ [(w, o)], rfl, (((e4.trans e47).new nt)).mut n2H, (d7.put nt).mut n2a, ?_, upd_same, ?_, by rw [List.length_append, hlen]; rfl, fun s hs => ?_⟩
          · have hwp := (Ex.new (o := .tup [.str w, lkV o]) nt) _ _ (e47 _ _ np hw4)
            have npp : p ≠ p2 := fun z => by
              rw [z] at hw4
              rw [h4] at hw4
              have hl0 := congrArg (fun x => match x with | some (HO.lst ys) => ys.head? | _ => none) hw4
              cases us with
              | nil => cases hl0
              | cons u us =>
                cases hA with
                | cons hu _ =>
                  obtain ⟨b, rfl, _⟩ := hu
                  cases hl0
            rw [upd_ne npp]
            exact hwp
          · refine All.app (hA.imp fun v x rr => ?_) (.cons ⟨t, rfl, ?_⟩ .nil)
            · exact ((rr.exn e47 d4).ex (Ex.new nt)).put h7t
            · rw [upd_ne ntp]
              exact upd_same
          · rcases List.mem_append.mp hs with hs | hs
            · exact hB s hs
            · rw [List.mem_singleton.mp hs]
              exact hb
        cases hj : decide (w ∈ jumps) with
        | true =>
          refine ⟨_, rfl, _, rfl, a, 1 + r, rfl, d6, by omega, by omega, fun r4 H7 hr4 e7 d7 => ⟨two, fun t nt => ?_⟩⟩
          obtain ⟨f1, f2, f3⟩ := fin (some r4) H7 e7 d7 (by unfold drawnB; rw [decide_eq_true hw2, hj]; simpa using hr4) t nt
          exact ⟨p2, us, .ref t, rfl, rfl, f1, f2, f3⟩
        | false =>
          refine ⟨two, fun t nt => ?_⟩
          obtain ⟨f1, f2, f3⟩ := fin none H6 (ExN.refl a H6) d6 (by unfold drawnB; rw [decide_eq_true hw2, hj]; rfl) t nt
          exact ⟨p2, us, .ref t, rfl, rfl, f1, f2, f3⟩
      · rintro σ' H4 ⟨y, z, us, l, rfl, e4, d4, hw4, h4, hA, hlen, hB⟩
        have hl1 : l.length = 1 + r := by omega
        exact s_ret (ev_var rfl) fun H5 e5 => k p2 us l H5 n2H (e4.trans (ExN.of e5)) (d4.ex e5) (e5 _ _ h4) (hA.imp fun v x rr => rr.ex e5) (drawn_of (by omega) (by omega) (by rw [hl1]; exact hB))

end SB

set_option maxHeartbeats 4000000
namespace SB
open PySem PySem.Spec PyProof.Rows L2
open TL (tl)
open Evl
variable {P : Program} {w : World} {K : PySem.W.Frag} {mg : Str → Option Value} {base : Heap}


/-- a value by draws -/
def EvD (a : Addr) (te : TE) (σ : L2.St) (H : Hp) (P : V → Prop) : Prop := ∀ Q : VK, (∀ v H2, ExN a H H2 → DAt a H2 → P v → Q v H2) → te σ H Q
section
variable {a : Addr} {σ : L2.St} {H : Hp} {D : L2.Ends} {te ta tb : TE} {tz : TS} {P : V → Prop} {E : XK} {v : V}
theorem ed_of (h : Ev te σ H v) (d : DAt a H) (p : P v) : EvD a te σ H P := fun Q q => h H (Ex.refl H) Q fun H2 e2 => q v H2 (ExN.of e2) (d.ex e2) p
theorem ed_op {r : R2} {P1 P2 : V → Prop} (h1 : EvD a ta σ H P1) (h2 : ∀ H1, ExN a H H1 → DAt a H1 → EvD a tb σ H1 P2) (hr : ∀ x y H2, ExN a H H2 → DAt a H2 → P1 x → P2 y → ∃ z, P z ∧ RV r x y H2 z) : EvD a (tOp r ta tb) σ H P := fun Q q =>
  h1 _ fun x H1 e1 d1 p1 => h2 H1 e1 d1 _ fun y H2 e2 d2 p2 => by
    obtain ⟨z, pz, rz⟩ := hr x y H2 (e1.trans e2) d2 p1 p2
    exact rz H2 (Ex.refl H2) _ fun H3 e3 => q z H3 ((e1.trans e2).trans (ExN.of e3)) (d2.ex e3) pz
theorem ed_below {t : TA} {lim : Nat} (h : EvA t σ H [.ref a, .int lim]) (d : DAt a H) (h0 : 0 < lim) (h1 : lim < 1000000) : EvD a (tCallR spBelow E t) σ H (fun v => ∃ r : Nat, r < lim ∧ v = .int r) := fun Q q =>
  h H (Ex.refl H) _ fun H1 e1 => ⟨a, lim, rfl, d.ex e1, h0, h1, fun r H2 hr e2 d2 => q _ H2 ((ExN.of e1).trans e2) d2 ⟨r, hr, rfl⟩⟩
theorem q_asgD {i : Nat} (h : EvD a te σ H P) (k : ∀ v H1, ExN a H H1 → DAt a H1 → P v → tz D (σ.set i (some v)) H1) : tSeq (tAsg te (gName i)) tz D σ H := h _ k
end
/-- a plan that was drawn -/
structure DrawnP (P : Plm) : Prop where
  lo : 3 ≤ P.bx.length
  hi : P.bx.length ≤ 8
  most : ∀ n ∈ P.bx, n ≤ 3
  la : P.a < P.bx.length
  lb : P.b < P.bx.length
  ab : P.a ≠ P.b
  k0 : Drawn P.l0
  k1 : Drawn P.l1
theorem DrawnP.ok {P : Plm} (h : DrawnP P) : PlOk P := ⟨h.lo, by have := h.hi; omega, h.most, h.la, h.lb, h.ab, h.k0.lk, h.k1.lk⟩
structure PlnD (H : Hp) (t sh st ls s0 s1 : Addr) (w0 w1 : List V) (P : Plm) : Prop where
  ht : H t = some (.tup [.ref sh, .ref st, .ref ls])
  hsh : H sh = some (.tup (P.bx.map fun (n : Nat) => V.int n))
  hst : H st = some (.tup [.int P.a, .int P.b])
  hls : H ls = some (.lst [.ref s0, .ref s1])
  h0 : H s0 = some (.lst w0)
  h1 : H s1 = some (.lst w1)
  k0 : All (LkAt H) w0 P.l0
  k1 : All (LkAt H) w1 P.l1
def PlanD (H : Hp) (v : V) (P : Plm) : Prop := ∃ t sh st ls s0 s1 w0 w1, v = .ref t ∧ PlnD H t sh st ls s0 s1 w0 w1 P
def spLPlan : Sp := fun vs H Q _ => ∃ a, vs = [.ref a, .int 8] ∧ DAt a H ∧ ∀ v P H', ExN a H H' → DAt a H' → PlanD H' v P → (∀ t, v = .ref t → H t = none) → DrawnP P → Q v H'
theorem second_of {f r m : Nat} (hf : f < m) (hr : r < m - 1) : (f + 1 + r) % m < m ∧ f ≠ (f + 1 + r) % m := by
  refine ⟨Nat.mod_lt _ (by omega), ?_⟩
  by_cases h : f + 1 + r < m
  · rw [Nat.mod_eq_of_lt h]
    omega
  · rw [Nat.mod_eq_sub_mod (by omega), Nat.mod_eq_of_lt (by omega)]
    omega

theorem ok__law_plan (T : Txt K mg) : FnR P w K mg base (L2.CX P w) 3 (He.ga K "_law_plan") spLPlan := by
  have G__law_below := ok__law_below (P := P) (w := w) (base := base) T
  have KP__law_below : PySem.W.keepIn K (.ref (He.ga K "_law_below")) = true := by
    obtain ⟨_, F⟩ := T.F__law_below
    exact F.kp
  have G__law_steps := ok__law_steps (P := P) (w := w) (base := base) T
  have KP__law_steps : PySem.W.keepIn K (.ref (He.ga K "_law_steps")) = true := by
    obtain ⟨_, F⟩ := T.F__law_steps
    exact F.kp
  obtain ⟨fd, F⟩ := T.F__law_plan
  have B : Binds K fd P__law_plan [] := F.bindsN fun _ _ _ _ _ _ us hl => match us, hl with | [_, _], _ => rfl
  refine fnR_of F B (F.ok sc__law_plan (fun vs H Q E h => ?_) (fun cdv A outer s H vs Q E hr h => ?_))
  · obtain ⟨a, rfl, _⟩ := h
    rfl
  · have hu := hu_of hr
    obtain ⟨a, rfl, hd, k⟩ := h
    refine ⟨_, (pss_cons (ps_set (i := 2) sc__law_plan.nd rfl (Or.inl rfl) (pe_op op_add pe_int (pe_callR G__law_below (hr.mono (by decide)) T.g__law_below KP__law_below px (pa_cons (pv 0) (pa_cons (pe_ix ix_list (pe_lst (pa_cons pe_int (pa_cons pe_int pa_nil))) (pe_callR G__law_below (hr.mono (by decide)) T.g__law_below KP__law_below px (pa_cons (pv 0) (pa_cons pe_int pa_nil))) (fun _ _ => rfl)) pa_nil)))))
        (pss_cons (ps_set (i := 3) sc__law_plan.nd rfl (Or.inl rfl) (pe_callR G__law_below (hr.mono (by decide)) T.g__law_below KP__law_below px (pa_cons (pv 0) (pa_cons (pv 2) pa_nil))))
        (pss_cons (ps_set (i := 4) sc__law_plan.nd rfl (Or.inl rfl) (pe_op op_modN (pe_op op_add (pe_op op_add (pv 3) pe_int) (pe_callR G__law_below (hr.mono (by decide)) T.g__law_below KP__law_below px (pa_cons (pv 0) (pa_cons (pe_op op_sub (pv 2) pe_int) pa_nil)))) (pv 2)))
        (pss_cons (ps_set (i := 5) sc__law_plan.nd rfl (Or.inl rfl) (pe_callTy call_tuple_of (by rfl) T.b_tuple (by decide +kernel) (pa_cons (pe_lc (own := [("_law_k", 6)]) rfl sc__law_plan.nd (pi_range1 (by rfl) T.b_range (pa_cons (pv 2) pa_nil)) (blkOk_by (own := [("_law_k", 6)]) (N := N__law_plan) (sc := defScope s__law_plan) (by decide +kernel)) (fun _ _ _ _ _ => by exact pg_name (i := 6) sc__law_plan.nd rfl (Or.inl rfl)) (fun _ _ _ _ _ => by exact pts_nil) (fun _ _ _ _ _ => by exact (pe_callR G__law_below (hr.mono (by decide)) T.g__law_below KP__law_below passL (pa_cons (pv 0) (pa_cons pe_int pa_nil))))) pa_nil)))
        (pss_one (ps_ret (pe_tup (pa_cons (pv 5) (pa_cons (pe_tup (pa_cons (pv 3) (pa_cons (pv 4) pa_nil))) (pa_cons (pe_lst (pa_cons (pe_callR G__law_steps (hr.mono (by decide)) T.g__law_steps KP__law_steps px (pa_cons (pv 0) (pa_cons (pv 1) pa_nil))) (pa_cons (pe_callR G__law_steps (hr.mono (by decide)) T.g__law_steps KP__law_steps px (pa_cons (pv 0) (pa_cons (pv 1) pa_nil))) pa_nil))) pa_nil)))))))))), ?_⟩
    have sz : 1000 < sizeLine := by decide
    have two : 2 ≤ sizeLine := by omega
    -- many_cells
    refine q_asgD (a := a) (P := fun v => ∃ m : Nat, 3 ≤ m ∧ m ≤ 8 ∧ v = .int m) (fun Q q => ⟨_, rfl, two, fun p1 n1 => ⟨_, rfl, a, 2, rfl, hd.put n1, by decide, by decide, fun r1 H1 h1 e1 d1 => ?_⟩⟩) fun v H1 e1 d1 ⟨m, m3, m8, hv⟩ => ?_
    · obtain ⟨lim, hlim, l0, l8⟩ : ∃ lim : Nat, [V.int 3, V.int 6][r1]? = some (.int lim) ∧ 0 < lim ∧ lim ≤ 6 := by
        match r1, h1 with
        | 0, _ => exact ⟨3, rfl, by decide, by decide⟩
        | 1, _ => exact ⟨6, rfl, by decide, by decide⟩
      refine ⟨p1, _, r1, _, rfl, rfl, sq_of (e1 _ _ (hd.ne n1) upd_same), at_nat hlim, a, lim, rfl, d1, l0, by omega, fun r2 H2 h2 e2 d2 => ⟨3, r2, rfl, rfl, ?_⟩⟩
      exact q _ H2 ((((ExN.refl a H).new n1).trans e1).trans e2) d2 ⟨3 + r2, by omega, by omega, rfl⟩
    subst hv
    refine q_asgD (ed_below (ea_cons (ev_var rfl) (ea_cons (ev_var rfl) ea_nil)) d1 (by omega) (by omega)) fun v H2 e2 d2 ⟨f, hf, hv⟩ => ?_
    subst hv
    refine q_asgD (P := fun v => ∃ g : Nat, g < m ∧ f ≠ g ∧ v = .int g) (ed_op (P1 := fun v => ∃ g : Nat, g < m - 1 ∧ v = .int ((f + 1 + g : Nat) : Int)) (P2 := fun v => v = .int m) (ed_op (P1 := fun v => v = .int ((f + 1 : Nat) : Int)) (P2 := fun v => ∃ g : Nat, g < m - 1 ∧ v = .int g) (ed_of (ev_op (ev_var rfl) ev_c rv_I0) d2 rfl) (fun H3 e3 d3 => ed_below (lim := m - 1) (ea_cons (ev_var rfl) (ea_cons (ev_is (ev_op (ev_var rfl) ev_c rv_I0) (congrArg V.int ?_)) ea_nil)) d3 (by omega) (by omega)) ?_) (fun H3 e3 d3 => ed_of (ev_var rfl) d3 rfl) ?_) fun v H3 e3 d3 ⟨g, hg, hfg, hv⟩ => ?_
    · omega
    · rintro x y H3 _ _ rfl ⟨g, hg, rfl⟩
      exact ⟨_, ⟨g, hg, rfl⟩, rv_I0⟩
    · rintro x y H3 _ _ ⟨g, hg, rfl⟩ rfl
      obtain ⟨q1, q2⟩ := second_of hf hg
      refine ⟨_, ⟨(f + 1 + g) % m, q1, q2, ?_⟩, rv_I (by omega)⟩
      rw [Int.fmod_eq_emod_of_nonneg _ (by omega)]
      rfl
    subst hv
    have e03 : ExN a H H3 := (e1.trans e2).trans e3
    -- shelf
    refine q_setH ⟨_, rfl, m, rfl, by omega, by omega, fun Dl hD => ?_⟩
    have nDa := d3.ne hD
    refine lc_range (lo := 0) (n := m) (fun i H' => ExN a H3 H' ∧ DAt a H' ∧ ∃ ns : List Nat, H' Dl = some (.lst (ns.map fun (n : Nat) => V.int n)) ∧ ns.length = i ∧ ∀ n ∈ ns, n ≤ 3) ⟨ExN.of (Ex.new hD), d3.put hD, [], upd_same, rfl, fun n hn => by cases hn⟩ ?_ ?_
    · rintro i H' hi ⟨e, d, ns, h1, h2, h3⟩
      refine ⟨rfl, _, rfl, a, 4, rfl, d, by decide, by decide, fun r H5 hr e5 d5 => ⟨_, e5 _ _ nDa h1, by rw [List.length_map]; omega, (e.trans e5).mut hD, d5.mut nDa, ns ++ [r], ?_, by rw [List.length_append, h2]; rfl, fun n hn => ?_⟩⟩
      · rw [upd_same, List.map_append]
        rfl
      · rcases List.mem_append.mp hn with hn | hn
        · exact h3 n hn
        · rw [List.mem_singleton.mp hn]
          omega
    rintro H4 ⟨e4, d4, ns, h1, h2, h3⟩
    refine ⟨Dl, _, rfl, .inl ⟨sq_of h1, fun sh nsh => ?_⟩⟩
    have e04 := (e03.trans e4).new (o := .tup (ns.map fun (n : Nat) => V.int n)) nsh
    have d04 := d4.put (o := .tup (ns.map fun (n : Nat) => V.int n)) nsh
    refine ⟨_, rfl, _, rfl, _, rfl, two, fun st nst => ⟨_, rfl, _, rfl, a, rfl, d04.put nst, fun s0 w0 l0 H5 n0 e5 d5 h5 hA5 hD5 => ⟨_, rfl, _, rfl, a, rfl, d5, fun s1 w1 l1 H6 n1 e6 d6 h6 hA6 hD6 => ⟨two, fun ls nls => ⟨by show 3 ≤ sizeLine; omega, fun t nt => ?_⟩⟩⟩⟩⟩
    have e46 := ((e5.trans e6).new (o := .lst [V.ref s0, V.ref s1]) nls).new (o := .tup [V.ref sh, V.ref st, V.ref ls]) nt
    have x7 := Ex.new (o := .lst [V.ref s0, V.ref s1]) nls
    have x8 := Ex.new (o := .tup [V.ref sh, V.ref st, V.ref ls]) nt
    have x78 := x7.trans x8
    have ns0 : s0 ≠ a := fun z => by
      subst z
      obtain ⟨ys, y1, _⟩ := d04.put (o := .tup [V.int f, V.int g]) nst
      rw [y1] at n0
      cases n0
    have y0 : H6 s0 = some (.lst w0) := e6 _ _ ns0 h5
    refine k _ ⟨ns, f, g, l0, l1⟩ _ ((e04.new nst).trans e46) (((d6.put nls)).put nt) ⟨t, sh, st, ls, s0, s1, w0, w1, rfl, ⟨upd_same, e46 _ _ (d4.ne nsh) ((Ex.new nst) _ _ upd_same), e46 _ _ (d04.ne nst) upd_same, x8 _ _ upd_same, x78 _ _ y0, x78 _ _ h6, hA5.imp fun v x rr => (rr.exn e6 d5).ex x78, hA6.imp fun v x rr => rr.ex x78⟩⟩ (fun t' ht' => ?_) ⟨by show 3 ≤ ns.length; omega, by show ns.length ≤ 8; omega, h3, by show f < ns.length; omega, by show g < ns.length; omega, hfg, hD5, hD6⟩
    cases ht'
    exact fr_of (((e04.new nst).trans (e5.trans e6)).new nls) (d6.put nls) nt

end SB

set_option maxHeartbeats 4000000
namespace SB
open PySem PySem.Spec PyProof.Rows L2
open TL (tl)
open Evl
variable {P : Program} {w : World} {K : PySem.W.Frag} {mg : Str → Option Value} {base : Heap}


section
variable {σ : L2.St} {H : Hp} {D : L2.Ends} {te : TE} {tz : TS} {x y z : V} {b : Addr} {i j l n : Nat}
theorem q_tup2 (h : Ev te σ H (.ref b)) (hb : SqT K H b [x, y]) (hn : 2 = n) (k : ∀ H1, Ex H H1 → tz D ((σ.set i (some x)).set j (some y)) H1) : tSeq (tAsg te (gTup K n (gCons (gName i) (gCons (gName j) gNil)))) tz D σ H :=
  h H (Ex.refl H) _ fun H1 e => ⟨b, [x, y], rfl, ex_t e hb, hn, _, _, rfl, _, _, rfl, rfl, k H1 e⟩
theorem q_tup3 (h : Ev te σ H (.ref b)) (hb : SqT K H b [x, y, z]) (hn : 3 = n) (k : ∀ H1, Ex H H1 → tz D (((σ.set i (some x)).set j (some y)).set l (some z)) H1) : tSeq (tAsg te (gTup K n (gCons (gName i) (gCons (gName j) (gCons (gName l) gNil))))) tz D σ H :=
  h H (Ex.refl H) _ fun H1 e => ⟨b, [x, y, z], rfl, ex_t e hb, hn, _, _, rfl, _, _, rfl, _, _, rfl, rfl, k H1 e⟩
end
theorem el_lcT {K : PySem.W.Frag} {σ : L2.St} {H : Hp} {te tl_ : TE} {t : TT} {a : Addr} {xs : List V} {j : Nat} {vs : List Nat} (f : Nat → Bool) (v : Nat → V) (h : Ev tl_ σ H (.ref a)) (hx : SqT K H a xs) (hz : xs.length ≤ 40000) (hw : ∀ x, wipe ((wipe σ vs).set j (some x)) vs = wipe σ vs)
    (ht : ∀ (i : Nat) (x : V) H1, Ex H H1 → xs[i]? = some x → EvT t ((wipe σ vs).set j (some x)) H1 (f i)) (he : ∀ (i : Nat) (x : V) H1, Ex H H1 → xs[i]? = some x → f i = true → Ev te ((wipe σ vs).set j (some x)) H1 (v i)) :
    EvL (tLc (iTup K tl_) (gName j) t te vs) σ H (given xs.length f v) := fun H0 e Q q => h H0 e _ fun H1 e1 => ⟨a, rfl, ⟨xs, ex_t (e.trans e1) hx⟩, fun Dl hD =>
  lc_tup (xs := xs) (Cw H1 f v Dl) ⟨hD, Ex.new hD, upd_same⟩ (fun i H' _ p => ex_t ((e.trans e1).trans p.2.1) hx) (fun i x H' hi p => ⟨hw x, cw_turn p (by have := (List.getElem?_eq_some_iff.mp hi).1; omega) (ht i x H1 (e.trans e1) hi) (fun hf => he i x H1 (e.trans e1) hi hf)⟩)
    (fun H' p => q Dl H' (fresh_back e1 p.1) (e1.trans p.2.1) p.2.2)⟩
theorem inV_nat (n : Nat) (ms : List Nat) : inV (.int n) (ms.map fun (m : Nat) => V.int m) = decide (n ∈ ms) := by
  have := inV_lk n (ms.map some)
  rw [List.map_map] at this
  rw [show (ms.map fun (m : Nat) => V.int m) = ms.map (lkV ∘ some) from rfl, this]
  apply decide_eq_decide.mpr
  simp
theorem flat_nat (ms : List Nat) : (ms.map fun (m : Nat) => V.int m).all flatV = true := by
  rw [List.all_map]
  exact List.all_eq_true.mpr fun _ _ => rfl
/-- the places to which steps lead -/
def goalsOf (l : List Lk) : List Nat := ((List.range l.length).filter fun i => (l.getD i ("", none)).2.isSome).map fun i => (l.getD i ("", none)).2.getD 0
theorem goals_given (l : List Lk) : given l.length (fun i => (l.getD i ("", none)).2.isSome) (fun i => lkV (l.getD i ("", none)).2) = (goalsOf l).map fun (m : Nat) => V.int m := by
  unfold given goalsOf
  rw [List.map_map]
  refine List.map_congr_left fun i hi => ?_
  have := (List.mem_filter.mp hi).2
  show lkV (l.getD i ("", none)).2 = V.int ((((l.getD i ("", none)).2.getD 0 : Nat)) : Int)
  cases q : (l.getD i ("", none)).2 with
  | none => rw [q] at this; cases this
  | some m => rfl
theorem goals_mem (l : List Lk) (n : Nat) : n ∈ goalsOf l ↔ some n ∈ l.map (·.2) := by
  unfold goalsOf
  simp only [List.mem_map, List.mem_filter, List.mem_range]
  constructor
  · rintro ⟨i, ⟨hi, hs⟩, hn⟩
    rw [List.getD_eq_getElem?_getD, List.getElem?_eq_getElem hi] at hs hn
    refine ⟨l[i], List.getElem_mem hi, ?_⟩
    cases q : (l[i]).2 with
    | none => simp [q] at hs
    | some m => simp [q] at hn; rw [hn]
  · rintro ⟨s, hs, hn⟩
    obtain ⟨i, hi⟩ := List.mem_iff_getElem?.mp hs
    refine ⟨i, ⟨(List.getElem?_eq_some_iff.mp hi).1, ?_⟩, ?_⟩
    · rw [List.getD_eq_getElem?_getD, hi]
      simp [hn]
    · rw [List.getD_eq_getElem?_getD, hi]
      simp [hn]
theorem goals_len (l : List Lk) : (goalsOf l).length ≤ l.length := by
  unfold goalsOf
  rw [List.length_map]
  exact Nat.le_trans (List.length_filter_le _ _) (by rw [List.length_range]; exact Nat.le_refl _)
def spLText : Sp := fun vs H Q _ => ∃ v P, vs = [v] ∧ PlanD H v P ∧ DrawnP P ∧ RetV (.str (planText P)) H Q
theorem sp_s : tl (" s" : Str) = [32, 115] := by decide +kernel

theorem ok__law_text (T : Txt K mg) : FnR P w K mg base (L2.CX P w) 1 (He.ga K "_law_text") spLText := by
  obtain ⟨fd, F⟩ := T.F__law_text
  have B : Binds K fd P__law_text [] := F.bindsN fun _ _ _ _ _ _ us hl => match us, hl with | [_], _ => rfl
  refine fnR_of F B (F.ok sc__law_text (fun vs H Q E h => ?_) (fun cdv A outer s H vs Q E hr h => ?_))
  · obtain ⟨v, Pl, rfl, _⟩ := h
    rfl
  · have hu := hu_of hr
    obtain ⟨v, Pl, rfl, hb, hD, k⟩ := h
    refine ⟨_, (pss_cons (ps_asg (pv 0) (pg_tup rfl (pgs_cons (pg_name (i := 1) sc__law_text.nd rfl (Or.inl rfl)) (pgs_cons (pg_name (i := 2) sc__law_text.nd rfl (Or.inl rfl)) (pgs_cons (pg_name (i := 3) sc__law_text.nd rfl (Or.inl rfl)) pgs_nil)))))
        (pss_cons (ps_set (i := 4) sc__law_text.nd rfl (Or.inl rfl) (pe_lst (pa_cons (pe_op op_add_str (pe_op op_add_str pe_str (pe_join pe_str (pe_lc (own := [("_law_pieces", 12)]) rfl sc__law_text.nd (pi_tup (pv 1)) (blkOk_by (own := [("_law_pieces", 12)]) (N := N__law_text) (sc := defScope s__law_text) (by decide +kernel)) (fun _ _ _ _ _ => by exact pg_name (i := 12) sc__law_text.nd rfl (Or.inl rfl)) (fun _ _ _ _ _ => by exact pts_nil) (fun _ _ _ _ _ => by exact (pe_callTy call_str_int (by rfl) T.b_str (by decide +kernel) (pa_cons (pv 12) pa_nil)))))) pe_str) pa_nil)))
        (pss_cons (ps_for (passes_of rfl) rfl (pi_range1 (by rfl) T.b_range (pa_cons pe_int pa_nil)) (pg_name (i := 5) sc__law_text.nd rfl (Or.inl rfl)) (pss_cons (ps_expr (pe_bm PySem.F.plainAttrs_list PySem.F.slot_list_append PySem.F.type_list_append mt_append (pv 4) (pa_cons (pe_op op_add_str (pe_op op_add_str pe_str (pe_callTy call_str_int (by rfl) T.b_str (by decide +kernel) (pa_cons (pe_ix ix_tup (pv 2) (pv 5) (fun _ _ => rfl)) pa_nil))) pe_str) pa_nil)))
        (pss_cons (ps_setLc (i := 6) (g := gTup K 2 (gCons (gName 8) (gCons (gName 9) gNil))) (own := [("_law_word", 8), ("_law_goal", 9)]) rfl sc__law_text.nd rfl rfl (sw_true rfl rfl rfl (by decide +kernel)) (pi_list (pe_ix ix_list (pv 3) (pv 5) (fun _ _ => rfl))) (blkOk_by (own := [("_law_word", 8), ("_law_goal", 9)]) (N := N__law_text) (sc := defScope s__law_text) (by decide +kernel)) (fun _ _ _ _ _ => by exact pg_tup rfl (pgs_cons (pg_name (i := 8) sc__law_text.nd rfl (Or.inl rfl)) (pgs_cons (pg_name (i := 9) sc__law_text.nd rfl (Or.inl rfl)) pgs_nil))) (fun _ _ _ _ _ => by exact (pts_one (pt_cmpR op_notN (pv 9) pe_non (nomark _)))) (fun _ _ _ _ _ => by exact (pv 9)))
        (pss_cons (ps_for (passes_of rfl) rfl (pi_range1 (by rfl) T.b_range (pa_cons (pe_callB call_len_seq (by rfl) T.b_len (by decide +kernel) (pa_cons (pe_ix ix_list (pv 3) (pv 5) (fun _ _ => rfl)) pa_nil)) pa_nil)) (pg_name (i := 7) sc__law_text.nd rfl (Or.inl rfl)) (pss_cons (ps_asg (pe_ix ix_list (pe_ix ix_list (pv 3) (pv 5) (fun _ _ => rfl)) (pv 7) (fun _ _ => rfl)) (pg_tup rfl (pgs_cons (pg_name (i := 8) sc__law_text.nd rfl (Or.inl rfl)) (pgs_cons (pg_name (i := 9) sc__law_text.nd rfl (Or.inl rfl)) pgs_nil))))
        (pss_cons (ps_set (i := 10) sc__law_text.nd rfl (Or.inl rfl) (pe_ifExp (pt_cmpR op_in_seq (pv 7) (pv 6) (by rfl)) (pe_op op_add_str (pe_op op_add_str pe_str (pe_ix ix_str pe_str (pv 7) (fun _ _ => rfl))) pe_str) pe_str))
        (pss_cons (ps_set (i := 11) sc__law_text.nd rfl (Or.inl rfl) (pe_ifExp (pt_cmpR op_notN (pv 9) pe_non (nomark _)) (pe_op op_add_str pe_str (pe_ix ix_str pe_str (pv 9) (fun _ _ => rfl))) pe_str))
        (pss_one (ps_expr (pe_bm PySem.F.plainAttrs_list PySem.F.slot_list_append PySem.F.type_list_append mt_append (pv 4) (pa_cons (pe_op op_add_str (pe_op op_add_str (pe_op op_add_str (pe_op op_add_str pe_str (pv 10)) (pv 8)) (pv 11)) pe_str) pa_nil))))))))
        (pss_one (ps_expr (pe_bm PySem.F.plainAttrs_list PySem.F.slot_list_append PySem.F.type_list_append mt_append (pv 4) (pa_cons pe_str pa_nil))))))))
        (pss_one (ps_ret (pe_join pe_str (pv 4))))))), ?_⟩
    obtain ⟨t, sh, st, ls, s0, s1, w0, w1, rfl, h⟩ := hb
    have hO := hD.ok
    have hhi := hO.hi
    have hla := hO.la
    have hlb := hO.lb
    have sz : 1000 < sizeLine := by decide
    refine q_tup3 (ev_var rfl) (st_of h.ht) rfl fun H1 e1 => ?_
    have hb2 : ∀ y ∈ Pl.bx.map numS, y.length ≤ 2 := fun y hy => by
      obtain ⟨n, hn, rfl⟩ := List.mem_map.mp hy
      have := hO.most n hn
      exact numS_len (by omega)
    have hsum := sum_le _ hb2
    rw [List.length_map] at hsum
    have b1 : ((" " : Str)).length = 1 := by decide +kernel
    have etl : tl (Txt.join (" " : Str) (Pl.bx.map numS)) = TL.joinL [32] (Pl.bx.map TL.numL) := by
      rw [TL.join_eq, TL.tl_join, blank1, List.map_map]
      exact congrArg (TL.joinL [32]) (List.map_congr_left fun n _ => numS_tl n)
    have hjl : (Txt.join (" " : Str) (Pl.bx.map numS)).length ≤ 60 := by
      rw [← len_tl, etl]
      have := hdC_len hO
      unfold hdC at this
      simp only [List.length_append] at this
      omega
    have s6 : (("shelf " : Str)).length = 6 := by decide +kernel
    have s1' : ((";" : Str)).length = 1 := by decide +kernel
    refine q_asgL (el_lst (vs := [V.str (mkS (hdC Pl))]) (ea_cons (ev_is (ev_op (ev_op ev_c (ev_joinN (ys := Pl.bx.map numS) ev_c (el_eq (el_lcT (xs := Pl.bx.map fun (n : Nat) => V.int n) (fun _ => true) (fun i => V.str (numS (Pl.bx.getD i 0))) (ev_var rfl) (st_of (e1 _ _ h.hsh)) (by rw [List.length_map]; omega) (fun _ => rfl) (fun _ _ _ _ _ => et_yes) fun i y H3 e3 hy _ => ?_) (given_all (by rw [List.length_map, List.length_map, List.length_map]) fun i y hy => ?_)) (by rw [List.length_map, b1]; omega)) (rv_addS (by omega))) ev_c (rv_addS (by rw [app_len]; omega))) (congrArg V.str (tl_inj ?_))) ea_nil) (by show 1 ≤ 100000; decide)) fun p H2 hp2 e2 h2 => ?_
    · rw [List.getElem?_map] at hy
      cases q : Pl.bx[i]? with
      | none => rw [q] at hy; cases hy
      | some n =>
        rw [q] at hy
        obtain rfl : V.int n = y := Option.some.inj hy
        have := hO.most n (List.mem_of_getElem? q)
        rw [List.getD_eq_getElem?_getD, q]
        exact ev_strI (n := n) (ev_var rfl) (by omega)
    · rw [List.map_map, List.getElem?_map] at hy
      cases q : Pl.bx[i]? with
      | none => rw [q] at hy; cases hy
      | some n =>
        rw [q] at hy
        rw [List.getD_eq_getElem?_getD, q]
        exact Option.some.inj hy
    · rw [TL.tl_append, TL.tl_append, etl, semi1]
      rfl
    have e02 := e1.trans e2
    have hp : H p = none := fresh_back e1 hp2
    have k1 : (("s" : Str)).length = 1 := by decide +kernel
    have k2 : ((": " : Str)).length = 2 := by decide +kernel
    have k3 : ((" s" : Str)).length = 2 := by decide +kernel
    have k4 : (("  " : Str)).length = 2 := by decide +kernel
    have r6 : (("robot " : Str)).length = 6 := by decide +kernel
    have r2 : ((" {" : Str)).length = 2 := by decide +kernel
    refine q_forR1 (n := 2) (ea_cons ev_c ea_nil) (by omega) (fun i σ' H' => ∃ (y5 y6 y7 y8 y9 y10 y11 : Option V), σ' = [some (.ref t), some (.ref sh), some (.ref st), some (.ref ls), some (.ref p), y5, y6, y7, y8, y9, y10, y11, none] ∧ Ex H H' ∧ H' p = some (.lst ((lnsP Pl i).map fun c => V.str (mkS c))))
      (fun H3 e3 => ⟨none, none, none, none, none, none, none, rfl, e02.trans e3, e3 _ _ h2⟩) ?_ ?_
    · rintro i σ' H3 hi ⟨y5, y6, y7, y8, y9, y10, y11, rfl, e3, h3⟩
      obtain ⟨n, l, sN, wN, gn, gs, gw, gA, hOl, hn, hlen, hnx⟩ : ∃ (n : Nat) (l : List Lk) (sN : Addr) (wN : List V), [V.int Pl.a, V.int Pl.b][i]? = some (.int n) ∧ [V.ref s0, V.ref s1][i]? = some (.ref sN) ∧ H sN = some (.lst wN) ∧ All (LkAt H) wN l ∧ LkOk l ∧ n < 12 ∧ (lnsP Pl i).length ≤ 25 ∧ lnsP Pl (i + 1) = lnsP Pl i ++ robC n l := by
        have k0 := hO.k0.len
        match i, hi with
        | 0, _ =>
          exact ⟨Pl.a, Pl.l0, s0, w0, rfl, rfl, h.h0, h.k0, hO.k0, by omega, by show 1 ≤ 25; decide, by
            show hdC Pl :: (robC Pl.a Pl.l0 ++ []) = [hdC Pl] ++ robC Pl.a Pl.l0
            rw [List.append_nil]
            rfl⟩
        | 1, _ =>
          refine ⟨Pl.b, Pl.l1, s1, w1, rfl, rfl, h.h1, h.k1, hO.k1, by omega, ?_, ?_⟩
          · show (robC Pl.a Pl.l0 ++ []).length + 1 ≤ 25
            rw [List.append_nil, robC_len]
            omega
          · show hdC Pl :: (robC Pl.a Pl.l0 ++ robC Pl.b Pl.l1) = (hdC Pl :: (robC Pl.a Pl.l0 ++ [])) ++ robC Pl.b Pl.l1
            rw [List.append_nil]
            rfl
        | i + 2, hi => omega
      have l20 := hOl.len
      have gl := gA.len
      have n2 : (numS n).length ≤ 2 := numS_len (by omega)
      have hz0 : (0 : Int) + (i : Int) = (i : Int) := Int.zero_add _
      refine q_appP (P := fun v _ => v = V.str (mkS (tl ("robot " : Str) ++ TL.numL n ++ [32, 123]))) h3 (ev_var rfl) (Ev.p (ev_is (ev_op (ev_op ev_c (ev_strI (n := n) (ev_op (ev_var rfl) (ev_var rfl) (rv_ixT (i := (i : Int)) (st_of (e3 _ _ h.hst)) (at_nat gn))) (by omega)) (rv_addS (by omega))) ev_c (rv_addS (by rw [app_len]; omega))) (congrArg V.str (tl_inj ?_))) fun _ _ => rfl) (by rw [List.length_map]; omega) fun v H5 e5 hv5 => ?_
      · rw [TL.tl_append, TL.tl_append, brace_s, numS_tl]
        rfl
      subst hv5
      have e45 := e3.trans e5
      have E5 := Ex.mut e45 hp (o := .lst ((lnsP Pl i).map (fun c => V.str (mkS c)) ++ [V.str (mkS (tl ("robot " : Str) ++ TL.numL n ++ [32, 123]))]))
      -- goals
      refine q_asgL (xs := (goalsOf l).map fun (m : Nat) => V.int m) (el_eq (el_lcP (xs := wN) (fun i => (l.getD i ("", none)).2.isSome) (fun i => lkV (l.getD i ("", none)).2) (ev_op (ev_var rfl) (ev_var rfl) (rv_ixL (i := (i : Int)) (sq_of (E5 _ _ h.hls)) (at_nat gs))) (sq_of (E5 _ _ gw)) (by omega) rfl (fun _ _ => rfl) fun i x hx => ?_) (by rw [gl]; exact goals_given l)) fun ga H6 hga e6 h6 => ?_
      · obtain ⟨s, hs, b, rfl, hb⟩ := gA.getV hx
        refine ⟨b, _, _, rfl, st_of (E5 _ _ hb), fun H2 e2 => ?_, fun H2 e2 _ => ?_⟩
        · refine et_test (ev_is (ev_op (ev_var rfl) ev_c rv_noN) ?_)
          rw [List.getD_eq_getElem?_getD, hs]
          show V.bl (!decide (lkV s.2 = V.non)) = V.bl s.2.isSome
          cases s.2 <;> rfl
        · refine ev_is (ev_var rfl) ?_
          rw [List.getD_eq_getElem?_getD, hs]
          rfl
      have E6 := E5.trans e6
      have npg : p ≠ ga := ne_of_none upd_same hga
      have h6p := e6 _ _ upd_same
      have hstL : (stepLs l).length = l.length := stepsFrom_len _ _ _
      refine q_forR1 (n := ((wN.length : Nat) : Int)) (ea_cons (ev_len (ev_op (ev_var rfl) (ev_var rfl) (rv_ixL (i := (i : Int)) (sq_of (E6 _ _ h.hls)) (at_nat gs))) (sq_of (E6 _ _ gw))) ea_nil) (by omega)
        (fun k σ' H' => ∃ (y7 y8 y9 y10 y11 : Option V), σ' = [some (.ref t), some (.ref sh), some (.ref st), some (.ref ls), some (.ref p), some (.int (i : Int)), some (.ref ga), y7, y8, y9, y10, y11, none] ∧ Ex H H' ∧ H' ga = some (.lst ((goalsOf l).map fun (m : Nat) => V.int m)) ∧ H' p = some (.lst (((lnsP Pl i).map (fun c => V.str (mkS c)) ++ [V.str (mkS (tl ("robot " : Str) ++ TL.numL n ++ [32, 123]))]) ++ ((stepLs l).take k).map fun c => V.str (mkS c))))
        (fun H7 e7 => ⟨_, _, _, _, _, rfl, E6.trans e7, e7 _ _ h6, by rw [List.take_zero, List.map_nil, List.append_nil]; exact e7 _ _ h6p⟩) ?_ ?_
      · rintro k σ' H7 hk ⟨z7, z8, z9, z10, z11, rfl, E7, h7, h7p⟩
        have hkl : k < l.length := by omega
        have hs : l[k]? = some l[k] := List.getElem?_eq_getElem hkl
        generalize l[k] = s at hs
        obtain ⟨v, hv, b, rfl, hb⟩ := gA.get hs
        have hmem := List.mem_of_getElem? hs
        have hw5 := cmd_len (hOl.word s hmem)
        refine q_tup2 (ev_op (ev_op (ev_var rfl) (ev_var rfl) (rv_ixL (i := (i : Int)) (sq_of (E7 _ _ h.hls)) (at_nat gs))) (ev_var rfl) (rv_ixL (i := (k : Int)) (sq_of (E7 _ _ gw)) (at_nat hv))) (st_of (E7 _ _ hb)) rfl fun H8 e8 => ?_
        let lb : Str := if some k ∈ l.map (·.2) then mkS (labC k ++ [58, 32]) else mkS []
        let jp : Str := match s.2 with
          | none => mkS []
          | some t => mkS (32 :: labC t)
        have hlb : lb.length ≤ 4 := by
          show (if some k ∈ l.map (·.2) then mkS (labC k ++ [58, 32]) else mkS []).length ≤ 4
          split
          · exact Nat.le_refl 4
          · exact Nat.zero_le 4
        have hjp : jp.length ≤ 3 := by
          show (match s.2 with | none => mkS [] | some t => mkS (32 :: labC t)).length ≤ 3
          cases s.2 with
          | none => exact Nat.zero_le 3
          | some t => exact Nat.le_refl 3
        refine q_asg (v := .str lb) (ev_if (b := decide (some k ∈ l.map (·.2))) (et_test (ev_is (ev_op (ev_var rfl) (ev_var rfl) (rv_isL (sq_of (e8 _ _ h7)) rfl (flat_nat _))) (congrArg V.bl ?_))) (fun hb => ?_) (fun hb => ?_)) fun H9 e9 => ?_
        · show inV (.int (k : Nat)) _ = _
          rw [inV_nat]
          exact decide_eq_decide.mpr (goals_mem l k)
        · refine ev_is (ev_op (ev_op ev_c (ev_op ev_c (ev_var rfl) (rv_ixS' (i := k) (by decide +kernel) (letter_at (n := k) (by omega)))) (rv_addS (by show ("s" : Str).length + 1 ≤ sizeLine; omega))) ev_c (rv_addS (by rw [app_len]; show ("s" : Str).length + 1 + _ ≤ sizeLine; omega))) (congrArg V.str (tl_inj ?_))
          rw [TL.tl_append, TL.tl_append, let_s, colon2]
          show [115] ++ [97 + k] ++ [58, 32] = tl (if some k ∈ l.map (·.2) then mkS (labC k ++ [58, 32]) else mkS [])
          rw [if_pos (of_decide_eq_true hb)]
          rfl
        · refine ev_is ev_c (congrArg V.str ?_)
          show ("" : Str) = if some k ∈ l.map (·.2) then mkS (labC k ++ [58, 32]) else mkS []
          rw [if_neg (of_decide_eq_false hb), empty0]
        refine q_asg (v := .str jp) (ev_if (b := s.2.isSome) (et_test (ev_is (ev_op (ev_var rfl) ev_c rv_noN) (congrArg V.bl (by cases s.2 <;> rfl)))) (fun hb => ?_) (fun hb => ?_)) fun H10 e10 => ?_
        · obtain ⟨m, em⟩ : ∃ m, s.2 = some m := by
            cases q : s.2 with
            | none => rw [q] at hb; cases hb
            | some m => exact ⟨m, rfl⟩
          have hm := hOl.tgt s hmem m em
          refine ev_is (ev_op ev_c (ev_op ev_c (ev_is (w := .int (m : Nat)) (ev_var rfl) (by rw [em]; rfl)) (rv_ixS' (i := m) (by decide +kernel) (letter_at (n := m) (by omega)))) (rv_addS (by show (" s" : Str).length + 1 ≤ sizeLine; omega))) (congrArg V.str (tl_inj ?_))
          rw [TL.tl_append, sp_s]
          show [32, 115] ++ [97 + m] = tl (match s.2 with | none => mkS [] | some t => mkS (32 :: labC t))
          rw [em]
          rfl
        · refine ev_is ev_c (congrArg V.str ?_)
          show ("" : Str) = match s.2 with | none => mkS [] | some t => mkS (32 :: labC t)
          cases q : s.2 with
          | none => exact empty0
          | some t => rw [q] at hb; cases hb
        have hp10 := ((e8.trans e9).trans e10) _ _ h7p
        have hstep := stepsFrom_get (l.map (·.2)) l 0 k s hs
        refine s_appP (P := fun v _ => v = V.str (mkS (stepC (l.map (·.2)) k s))) hp10 (ev_var rfl) (Ev.p (ev_is (ev_op (ev_op (ev_op (ev_op ev_c (ev_var rfl) (rv_addS (by omega))) (ev_var rfl) (rv_addS (by rw [app_len]; omega))) (ev_var rfl) (rv_addS (by rw [app_len, app_len]; omega))) ev_c (rv_addS (by rw [app_len, app_len, app_len]; omega))) (congrArg V.str (tl_inj ?_))) fun _ _ => rfl) (by simp only [List.length_append, List.length_map, List.length_cons, List.length_nil, List.length_take]; omega) fun v H11 e11 hv11 => ?_
        · rw [TL.tl_append, TL.tl_append, TL.tl_append, TL.tl_append]
          have t1 : tl lb = if some k ∈ l.map (·.2) then labC k ++ [58, 32] else [] := by
            show tl (if some k ∈ l.map (·.2) then mkS (labC k ++ [58, 32]) else mkS []) = _
            split <;> rfl
          have t2 : tl jp = match s.2 with | none => [] | some t => 32 :: labC t := by
            show tl (match s.2 with | none => mkS [] | some t => mkS (32 :: labC t)) = _
            cases s.2 <;> rfl
          rw [t1, t2, blank2, semi1]
          rfl
        · subst hv11
          refine ⟨_, _, _, _, _, rfl, Ex.mut ((((E7.trans e8).trans e9).trans e10).trans e11) hp, ?_, ?_⟩
          · rw [upd_ne (Ne.symm npg)]
            exact (((e8.trans e9).trans e10).trans e11) _ _ h7
          · rw [upd_same, take_more (l := stepLs l) (i := k) (x := stepC (l.map (·.2)) k s) (by rw [Nat.zero_add] at hstep; exact hstep), List.map_append, List.append_assoc]
            rfl
      · rintro σ' H7 ⟨z7, z8, z9, z10, z11, rfl, E7, h7, h7p⟩
        rw [List.take_of_length_le (by show (stepLs l).length ≤ wN.length; omega)] at h7p
        refine s_appP (P := fun v _ => v = V.str (mkS [125])) h7p (ev_var rfl) (Ev.p (ev_is ev_c (congrArg V.str close_s)) fun _ _ => rfl) (by simp only [List.length_append, List.length_map, List.length_cons, List.length_nil]; omega) fun v H8 e8 hv8 => ?_
        subst hv8
        refine ⟨_, _, _, _, _, _, _, rfl, Ex.mut (E7.trans e8) hp, ?_⟩
        rw [upd_same, hnx]
        unfold robC
        simp only [List.map_append, List.map_cons, List.map_nil, List.append_assoc, List.cons_append, List.nil_append]
    · rintro σ' H' ⟨y5, y6, y7, y8, y9, y10, y11, rfl, e3, h3⟩
      have h3' : H' p = some (.lst (((planC Pl).map mkS).map V.str)) := by
        rw [List.map_map]
        exact h3
      have bnd := sum_le (k := 60) ((planC Pl).map mkS) fun y hy => by
        obtain ⟨c, hc, rfl⟩ := List.mem_map.mp hy
        exact planC_small hO c hc
      have pl := planC_len hO
      have nl : (("\n" : Str)).length = 1 := by decide +kernel
      refine s_ret (ev_is (ev_joinL ev_c (ev_var rfl) h3' (by rw [List.length_map] at bnd ⊢; rw [nl]; omega)) (congrArg V.str (planText_join Pl))) fun H4 e4 => k H4 (e3.trans e4)

end SB

set_option maxHeartbeats 4000000
namespace SB
open PySem PySem.Spec PyProof.Rows L2
open TL (tl)
open Evl
variable {P : Program} {w : World} {K : PySem.W.Frag} {mg : Str → Option Value} {base : Heap}


def spShuf : Sp := fun vs H Q _ => ∃ (a q : Addr) (ys : List Str), vs = [.ref a, .ref q] ∧ DAt a H ∧ H q = some (.lst (ys.map V.str)) ∧ ys.length ≤ 20 ∧ (∀ y ∈ ys, PyData.canLay0 (.str y) = true) ∧
  ∀ p (zs : List Str) H', H p = none → ExN a H H' → DAt a H' → H' p = some (.lst (zs.map V.str)) → zs.Perm ys → Q (.ref p) H'
theorem dpAll_str {K : PySem.W.Frag} {H : Hp} : ∀ ys : List Str, DpAll K H (ys.map V.str) (ys.map PyData.str)
  | [] => .nil
  | y :: r => .cons (.str y) (dpAll_str r)
theorem canLay_strs : ∀ ys : List Str, (∀ y ∈ ys, PyData.canLay0 (.str y) = true) → PyData.canLayAll0 (ys.map PyData.str) = true
  | [], _ => rfl
  | y :: r, h => by
    show (PyData.canLay0 (.str y) && PyData.canLayAll0 (r.map PyData.str)) = true
    rw [h y (List.mem_cons_self ..), canLay_strs r fun z hz => h z (List.mem_cons_of_mem _ hz)]
    rfl
theorem depth_strs : ∀ ys : List Str, PyData.depthAll (ys.map PyData.str) = 0
  | [] => rfl
  | y :: r => by
    show max (PyData.depth (.str y)) (PyData.depthAll (r.map PyData.str)) = 0
    rw [depth_strs r]
    rfl
theorem shaped_strs (ys : List Str) (h : ∀ y ∈ ys, PyData.canLay0 (.str y) = true) : SeqAt.shaped (.list (ys.map PyData.str)) = true := by
  unfold SeqAt.shaped
  show (PyData.canLayAll0 (ys.map PyData.str) && decide (PyData.depthAll (ys.map PyData.str) + 1 ≤ 64)) = true
  rw [canLay_strs ys h, depth_strs]
  rfl
theorem eqv_nil (ys : List Str) : PyData.eqv (.list (ys.map PyData.str)) (.list []) = ys.isEmpty := by
  cases ys <;> rfl
theorem perm_erase : ∀ (l : List Str) (r : Nat) (w : Str), l[r]? = some w → (w :: l.eraseIdx r).Perm l
  | [], _, _, h => by simp at h
  | a :: l, 0, w, h => by
    obtain rfl : a = w := Option.some.inj h
    exact List.Perm.refl _
  | a :: l, r + 1, w, h => (List.Perm.swap a w _).trans (List.Perm.cons a (perm_erase l r w h))
theorem erase_map {f : Str → V} : ∀ (l : List Str) (i : Nat), (l.map f).eraseIdx i = (l.eraseIdx i).map f
  | [], _ => rfl
  | _ :: _, 0 => rfl
  | a :: r, i + 1 => by
    show f a :: (r.map f).eraseIdx i = f a :: (r.eraseIdx i).map f
    rw [erase_map r i]

theorem ok__law_shuffled (T : Txt K mg) : FnR P w K mg base (L2.CX P w) 2 (He.ga K "_law_shuffled") spShuf := by
  have G__law_below := ok__law_below (P := P) (w := w) (base := base) T
  have KP__law_below : PySem.W.keepIn K (.ref (He.ga K "_law_below")) = true := by
    obtain ⟨_, F⟩ := T.F__law_below
    exact F.kp
  obtain ⟨fd, F⟩ := T.F__law_shuffled
  have B : Binds K fd P__law_shuffled [] := F.bindsN fun _ _ _ _ _ _ us hl => match us, hl with | [_, _], _ => rfl
  refine fnR_of F B (F.ok sc__law_shuffled (fun vs H Q E h => ?_) (fun cdv A outer s H vs Q E hr h => ?_))
  · obtain ⟨a, q, ys, rfl, _⟩ := h
    rfl
  · have hu := hu_of hr
    obtain ⟨a, q, ys, rfl, hd, hq, hl, hc, k⟩ := h
    refine ⟨_, (pss_cons (ps_set (i := 2) sc__law_shuffled.nd rfl (Or.inl rfl) (pe_callTy call_list_of (by rfl) T.b_list (by decide +kernel) (pa_cons (pv 1) pa_nil)))
        (pss_cons (ps_set (i := 3) sc__law_shuffled.nd rfl (Or.inl rfl) (pe_lst pa_nil))
        (pss_cons (ps_while (passes_of rfl) (pt_cmpR (op_neD hr.units) (pv 2) (pe_lst pa_nil) (nomark _)) (pss_one (ps_expr (pe_bm PySem.F.plainAttrs_list PySem.F.slot_list_append PySem.F.type_list_append mt_append (pv 3) (pa_cons (pe_bm PySem.F.plainAttrs_list PySem.F.slot_list_pop PySem.F.type_list_pop mt_popAt (pv 2) (pa_cons (pe_callR G__law_below (hr.mono (by decide)) T.g__law_below KP__law_below px (pa_cons (pv 0) (pa_cons (pe_callB call_len_seq (by rfl) T.b_len (by decide +kernel) (pa_cons (pv 2) pa_nil)) pa_nil))) pa_nil)) pa_nil)))))
        (pss_one (ps_ret (pv 3)))))), ?_⟩
    have sz : 1000 < sizeLine := by decide
    refine q_asgL (el_list (ev_var rfl) (sq_of hq)) fun pl H1 npl e1 h1 => ?_
    refine q_asgL (el_lst ea_nil (by show 0 ≤ 100000; decide)) fun rs H2 nrs e2 h2 => ?_
    have e02 := e1.trans e2
    have nplrs : pl ≠ rs := ne_of_none h1 nrs
    have hnpl : H pl = none := npl
    have hnrs : H rs = none := fresh_back e1 nrs
    have pa : pl ≠ a := hd.ne hnpl
    have ra : rs ≠ a := hd.ne hnrs
    refine q_while (fun m σ' H' => ∃ (zs ps : List Str), m = ps.length ∧ σ' = [some (.ref a), some (.ref q), some (.ref pl), some (.ref rs)] ∧ ExN a H H' ∧ DAt a H' ∧ H' pl = some (.lst (ps.map V.str)) ∧ H' rs = some (.lst (zs.map V.str)) ∧ (zs ++ ps).Perm ys) ys.length
      ⟨[], ys, rfl, rfl, ExN.of e02, hd.ex e02, e2 _ _ h1, h2, List.Perm.refl _⟩ ?_
    rintro m σ' H' ⟨zs, ps, rfl, rfl, e, d, hp, hr', pm⟩
    have hlen := pm.length_eq
    rw [List.length_append] at hlen
    refine ⟨!(ps.isEmpty), fun H3 e3 Q q => ⟨_, rfl, Nat.zero_le _, fun p np => ⟨.list (ps.map PyData.str), .list [], .lst (sq_of ((Ex.new np) _ _ (e3 _ _ hp))) (dpAll_str ps), .lst (sq_of upd_same) .nil, ?_, rfl, _, rfl, ?_⟩⟩, fun hb H3 e3 => ?_, fun hb H3 e3 => ?_⟩
    · exact shaped_strs ps fun y hy => hc y (pm.mem_iff.mp (List.mem_append_right _ hy))
    · rw [eqv_nil]
      exact q _ (Ex.new np)
    · have hpos : 0 < ps.length := by
        cases ps with
        | nil => cases hb
        | cons _ _ => exact Nat.succ_pos _
      refine ⟨_, fun _ _ x => x, ?_⟩
      refine ⟨_, rfl, Or.inl ⟨rfl, _, sq_of (e3 _ _ hr')⟩, _, rfl, Or.inl ⟨rfl, _, sq_of (e3 _ _ hp)⟩, _, rfl, ?_⟩
      refine ev_len (ev_var rfl) (sq_of (e3 _ _ hp)) H3 (Ex.refl H3) _ fun H4 e4 => ?_
      have e34 := e3.trans e4
      rw [List.length_map]
      refine ⟨a, ps.length, rfl, d.ex e34, hpos, by omega, fun r H5 hr e5 d5 => ?_⟩
      have h5p := e5 _ _ pa (e34 _ _ hp)
      have h5r := e5 _ _ ra (e34 _ _ hr')
      have hgx : ps[r]? = some ps[r] := List.getElem?_eq_getElem hr
      generalize hw : ps[r] = w at hgx
      have xe : ExN a H H5 := e.trans ((ExN.of e34).trans e5)
      refine ⟨pl, _, r, r, .str w, rfl, rfl, h5p, by omega, by omega, sqi_nat (by rw [List.length_map]; exact hr), by rw [List.getElem?_map, hgx]; rfl, rs, _, .str w, rfl, rfl, by rw [upd_ne (Ne.symm nplrs)]; exact h5r, by rw [List.length_map]; omega, ?_⟩
      refine ⟨(ps.eraseIdx r).length, by rw [List.length_eraseIdx_of_lt hr]; omega, zs ++ [w], ps.eraseIdx r, rfl, rfl, (xe.mut hnpl).mut hnrs, (d5.mut pa).mut ra, ?_, ?_, ?_⟩
      · rw [upd_ne nplrs, upd_same, erase_map]
      · rw [upd_same, List.map_append]
        rfl
      · rw [List.append_assoc]
        refine List.Perm.trans (List.Perm.append_left zs ?_) pm
        exact perm_erase ps r w hgx
    · refine s_ret (ev_var rfl) fun H4 e4 => k rs zs H4 hnrs (e.trans (ExN.of (e3.trans e4))) (d.ex (e3.trans e4)) ((e3.trans e4) _ _ hr') ?_
      cases ps with
      | nil =>
        rw [List.append_nil] at pm
        exact pm
      | cons _ _ => cases hb

end SB

set_option maxHeartbeats 4000000
namespace SB
open PySem PySem.Spec PyProof.Rows L2
open TL (tl)
open Evl
variable {P : Program} {w : World} {K : PySem.W.Frag} {mg : Str → Option Value} {base : Heap}


/-- two values of one form, to the depth n -/
def EqV : Nat → Hp → V → V → Prop
  | 0, _, _, _ => False
  | n + 1, H, x, y => (∃ z, x = .str z ∧ y = .str z) ∨ (∃ i, x = .int i ∧ y = .int i) ∨ (∃ p q us vs, x = .ref p ∧ y = .ref q ∧ ((H p = some (.lst us) ∧ H q = some (.lst vs)) ∨ (H p = some (.tup us) ∧ H q = some (.tup vs))) ∧
    us.length = vs.length ∧ us.length ≤ 1000 ∧ ∀ (i : Nat) u v, us[i]? = some u → vs[i]? = some v → EqV n H u v)
theorem EqV.ex : ∀ {n : Nat} {H H' : Hp} {x y : V}, Ex H H' → EqV n H x y → EqV n H' x y
  | 0, _, _, _, _, _, h => h
  | n + 1, H, H', x, y, e, h => by
    rcases h with h | h | ⟨p, q, us, vs, e1, e2, h1, h2, h3, h4⟩
    · exact .inl h
    · exact .inr (.inl h)
    · refine .inr (.inr ⟨p, q, us, vs, e1, e2, ?_, h2, h3, fun i u v a b => (h4 i u v a b).ex e⟩)
      rcases h1 with ⟨a, b⟩ | ⟨a, b⟩
      · exact .inl ⟨e _ _ a, e _ _ b⟩
      · exact .inr ⟨e _ _ a, e _ _ b⟩
def spEq (n : Nat) : Sp := fun vs H Q _ => ∃ x y, vs = [x, y] ∧ EqV n H x y ∧ RetV (.bl true) H Q
def rIxB (K : PySem.W.Frag) : R2 := fun x y H Q => rIxL K x y H Q ∨ rIxT K x y H Q
theorem ix_both {X : Cx} : IxR X (rIxB X.K) := ix_list.or ix_tup
theorem ev_isi {K : PySem.W.Frag} {σ : L2.St} {H : Hp} {ta : TE} {x : V} {tn cn : String} {b : Bool} (h : Ev ta σ H x) (ht : ∀ H1, Ex H H1 → TyOf K H1 x (.type tn)) (hk : kitB tn cn = some b) : Ev (tCB (rIsi K) (tCons ta (tCons (tC (.ty cn)) tNil))) σ H (.bl b) := fun H1 e Q q =>
  h H1 e _ fun H2 e2 => ⟨x, .ty cn, .type tn, .type cn, b, rfl, .ty cn, .base (ht H2 (e.trans e2)), kit_ty hk, q H2 e2⟩
theorem ev_lenT {K : PySem.W.Frag} {σ : L2.St} {H : Hp} {ta : TE} {p : Addr} {xs : List V} (ha : Ev ta σ H (.ref p)) (h : SqT K H p xs) : Ev (tCB (rLenS K) (tCons ta tNil)) σ H (.int (xs.length : Int)) := fun H1 e Q q =>
  ha H1 e _ fun H2 e2 => ⟨p, xs, rfl, .inr (ex_t (e.trans e2) h), q H2 e2⟩
theorem ev_all {K : PySem.W.Frag} {σ : L2.St} {H : Hp} {te : TE} {bs : List Bool} (h : EvL te σ H (bs.map V.bl)) : Ev (tCB (rAll K) (tCons te tNil)) σ H (.bl (bs.all id)) := fun H1 e Q q =>
  h H1 e _ fun p H2 _ e2 hp => ⟨p, bs, rfl, sq_of hp, q H2 e2⟩

theorem ok__law_equal_S {n : Nat} (T : Txt K mg) (G__law_equal : FnR P w K mg base (L2.CX P w) n (He.ga K "_law_equal") (spEq n)) (KP__law_equal : PySem.W.keepIn K (.ref (He.ga K "_law_equal")) = true) : FnR P w K mg base (L2.CX P w) (n + 1) (He.ga K "_law_equal") (spEq (n + 1)) := by
  obtain ⟨fd, F⟩ := T.F__law_equal
  have B : Binds K fd P__law_equal [] := F.bindsN fun _ _ _ _ _ _ us hl => match us, hl with | [_, _], _ => rfl
  refine fnR_of F B (F.ok sc__law_equal (fun vs H Q E h => ?_) (fun cdv A outer s H vs Q E hr h => ?_))
  · obtain ⟨x, y, rfl, _⟩ := h
    rfl
  · have hu := hu_of hr
    obtain ⟨x, y, rfl, hE, k⟩ := h
    refine ⟨_, (pss_cons (ps_if (pt_cmpR op_isN (pv 1) pe_non (nomark _)) (pss_one (ps_ret (pe_cmpR op_isN (pv 0) pe_non (nomark _)))) pss_nil)
        (pss_cons (ps_if (pt_val (pe_callB call_isi (by rfl) T.b_isinstance (by decide +kernel) (pa_cons (pv 1) (pa_cons (pe_bltn (v := V.ty "bool") (by rfl) T.b_bool (by decide +kernel) rfl) pa_nil)))) (pss_one (ps_ret (pe_and (pe_callB call_isi (by rfl) T.b_isinstance (by decide +kernel) (pa_cons (pv 0) (pa_cons (pe_bltn (v := V.ty "bool") (by rfl) T.b_bool (by decide +kernel) rfl) pa_nil))) (pe_one (pe_cmpR op_eq (pv 0) (pv 1) (nomark _)))))) pss_nil)
        (pss_cons (ps_if (pt_val (pe_callB call_isi (by rfl) T.b_isinstance (by decide +kernel) (pa_cons (pv 1) (pa_cons (pe_bltn (v := V.ty "int") (by rfl) T.b_int (by decide +kernel) rfl) pa_nil)))) (pss_one (ps_ret (pe_and (pe_callB call_isi (by rfl) T.b_isinstance (by decide +kernel) (pa_cons (pv 0) (pa_cons (pe_bltn (v := V.ty "int") (by rfl) T.b_int (by decide +kernel) rfl) pa_nil))) (pe_and (pe_not (pe_callB call_isi (by rfl) T.b_isinstance (by decide +kernel) (pa_cons (pv 0) (pa_cons (pe_bltn (v := V.ty "bool") (by rfl) T.b_bool (by decide +kernel) rfl) pa_nil)))) (pe_one (pe_cmpR op_eq (pv 0) (pv 1) (nomark _))))))) pss_nil)
        (pss_cons (ps_if (pt_val (pe_callB call_isi (by rfl) T.b_isinstance (by decide +kernel) (pa_cons (pv 1) (pa_cons (pe_bltn (v := V.ty "str") (by rfl) T.b_str (by decide +kernel) rfl) pa_nil)))) (pss_one (ps_ret (pe_and (pe_callB call_isi (by rfl) T.b_isinstance (by decide +kernel) (pa_cons (pv 0) (pa_cons (pe_bltn (v := V.ty "str") (by rfl) T.b_str (by decide +kernel) rfl) pa_nil))) (pe_one (pe_cmpR op_eq (pv 0) (pv 1) (nomark _)))))) pss_nil)
        (pss_cons (ps_if (pt_cmpR op_ne (pe_callB call_isi (by rfl) T.b_isinstance (by decide +kernel) (pa_cons (pv 1) (pa_cons (pe_bltn (v := V.ty "tuple") (by rfl) T.b_tuple (by decide +kernel) rfl) pa_nil))) (pe_callB call_isi (by rfl) T.b_isinstance (by decide +kernel) (pa_cons (pv 0) (pa_cons (pe_bltn (v := V.ty "tuple") (by rfl) T.b_tuple (by decide +kernel) rfl) pa_nil))) (nomark _)) (pss_one (ps_ret pe_bl)) pss_nil)
        (pss_cons (ps_if (pt_cmpR op_ne (pe_callB call_isi (by rfl) T.b_isinstance (by decide +kernel) (pa_cons (pv 1) (pa_cons (pe_bltn (v := V.ty "list") (by rfl) T.b_list (by decide +kernel) rfl) pa_nil))) (pe_callB call_isi (by rfl) T.b_isinstance (by decide +kernel) (pa_cons (pv 0) (pa_cons (pe_bltn (v := V.ty "list") (by rfl) T.b_list (by decide +kernel) rfl) pa_nil))) (nomark _)) (pss_one (ps_ret pe_bl)) pss_nil)
        (pss_cons (ps_if (pt_cmpR op_ne (pe_callB call_len_seq (by rfl) T.b_len (by decide +kernel) (pa_cons (pv 0) pa_nil)) (pe_callB call_len_seq (by rfl) T.b_len (by decide +kernel) (pa_cons (pv 1) pa_nil)) (nomark _)) (pss_one (ps_ret pe_bl)) pss_nil)
        (pss_one (ps_ret (pe_callB (cr_all rfl) (by rfl) T.b_all (by decide +kernel) (pa_cons (pe_lc (te := tCallR (spEq n) E0 (tCons (tOp (rIxB K) (tVar 0) (tVar 2)) (tCons (tOp (rIxB K) (tVar 1) (tVar 2)) tNil))) (own := [("_law_k", 2)]) rfl sc__law_equal.nd (pi_range1 (by rfl) T.b_range (pa_cons (pe_callB call_len_seq (by rfl) T.b_len (by decide +kernel) (pa_cons (pv 1) pa_nil)) pa_nil)) (blkOk_by (own := [("_law_k", 2)]) (N := N__law_equal) (sc := defScope s__law_equal) (by decide +kernel)) (fun _ _ _ _ _ => by exact pg_name (i := 2) sc__law_equal.nd rfl (Or.inl rfl)) (fun _ _ _ _ _ => by exact pts_nil) (fun _ _ _ _ _ => by exact (pe_callR G__law_equal hr T.g__law_equal KP__law_equal passL (pa_cons (pe_ix ix_both (pv 0) (pv 2) (fun _ _ => rfl)) (pa_cons (pe_ix ix_both (pv 1) (pv 2) (fun _ _ => rfl)) pa_nil))))) pa_nil))))))))))), ?_⟩
    rcases hE with ⟨z, rfl, rfl⟩ | ⟨i, rfl, rfl⟩ | ⟨p, q, us, vs, rfl, rfl, hpq, hlen, h1000, hall⟩
    · refine q_when (b := false) (et_test (ev_is (ev_op (ev_var rfl) ev_c rv_isN) rfl)) (fun hb => by cases hb) fun _ H1 e1 => ?_
      refine q_when (b := false) (et_B (ev_isi (ev_var rfl) (fun _ _ => .str z) (by decide +kernel))) (fun hb => by cases hb) fun _ H2 e2 => ?_
      refine q_when (b := false) (et_B (ev_isi (ev_var rfl) (fun _ _ => .str z) (by decide +kernel))) (fun hb => by cases hb) fun _ H3 e3 => ?_
      refine q_when (b := true) (et_B (ev_isi (ev_var rfl) (fun _ _ => .str z) (by decide +kernel))) (fun _ H4 e4 => ?_) (fun hb => by cases hb)
      refine s_ret (ev_is (ev_andV (ev_isi (b := true) (ev_var rfl) (fun _ _ => .str z) (by decide +kernel)) fun _ => ev_op (ev_var rfl) (ev_var rfl) (rv_eq rfl)) ?_) fun H5 e5 => k H5 ((((e1.trans e2).trans e3).trans e4).trans e5)
      show V.bl (true && decide (V.str z = V.str z)) = V.bl true
      rw [decide_eq_true rfl]
      rfl
    · refine q_when (b := false) (et_test (ev_is (ev_op (ev_var rfl) ev_c rv_isN) rfl)) (fun hb => by cases hb) fun _ H1 e1 => ?_
      refine q_when (b := false) (et_B (ev_isi (ev_var rfl) (fun _ _ => .int i) (by decide +kernel))) (fun hb => by cases hb) fun _ H2 e2 => ?_
      refine q_when (b := true) (et_B (ev_isi (ev_var rfl) (fun _ _ => .int i) (by decide +kernel))) (fun _ H3 e3 => ?_) (fun hb => by cases hb)
      refine s_ret (ev_is (ev_andV (ev_isi (b := true) (ev_var rfl) (fun _ _ => .int i) (by decide +kernel)) fun _ => ev_andV (ev_notV (ev_isi (b := false) (ev_var rfl) (fun _ _ => .int i) (by decide +kernel))) fun _ => ev_op (ev_var rfl) (ev_var rfl) (rv_eq rfl)) ?_) fun H5 e5 => k H5 (((e1.trans e2).trans e3).trans e5)
      show V.bl (true && (!false && decide (V.int i = V.int i))) = V.bl true
      rw [decide_eq_true rfl]
      rfl
    · obtain ⟨tn, bt, bl, tp, tq, k1, k2, k3, k4, k5, hsq⟩ : ∃ (tn : String) (bt bl : Bool), (∀ H1, Ex H H1 → TyOf K H1 (.ref p) (.type tn)) ∧ (∀ H1, Ex H H1 → TyOf K H1 (.ref q) (.type tn)) ∧ kitB tn "bool" = some false ∧ kitB tn "int" = some false ∧ kitB tn "str" = some false ∧ kitB tn "tuple" = some bt ∧ kitB tn "list" = some bl ∧
          ∀ H1, Ex H H1 → (SqL K H1 p us ∧ SqL K H1 q vs) ∨ (SqT K H1 p us ∧ SqT K H1 q vs) := by
        rcases hpq with ⟨a, b⟩ | ⟨a, b⟩
        · exact ⟨"list", false, true, fun H1 e => .lst (e _ _ a), fun H1 e => .lst (e _ _ b), by decide +kernel, by decide +kernel, by decide +kernel, by decide +kernel, by decide +kernel, fun H1 e => .inl ⟨sq_of (e _ _ a), sq_of (e _ _ b)⟩⟩
        · exact ⟨"tuple", true, false, fun H1 e => .tup (e _ _ a), fun H1 e => .tup (e _ _ b), by decide +kernel, by decide +kernel, by decide +kernel, by decide +kernel, by decide +kernel, fun H1 e => .inr ⟨st_of (e _ _ a), st_of (e _ _ b)⟩⟩
      refine q_when (b := false) (et_test (ev_is (ev_op (ev_var rfl) ev_c rv_isN) rfl)) (fun hb => by cases hb) fun _ H1 e1 => ?_
      refine q_when (b := false) (et_B (ev_isi (ev_var rfl) (fun H' e' => tq H' (e1.trans e')) k1)) (fun hb => by cases hb) fun _ H2 e2 => ?_
      have e02 := e1.trans e2
      refine q_when (b := false) (et_B (ev_isi (ev_var rfl) (fun H' e' => tq H' (e02.trans e')) k2)) (fun hb => by cases hb) fun _ H3 e3 => ?_
      have e03 := e02.trans e3
      refine q_when (b := false) (et_B (ev_isi (ev_var rfl) (fun H' e' => tq H' (e03.trans e')) k3)) (fun hb => by cases hb) fun _ H4 e4 => ?_
      have e04 := e03.trans e4
      refine q_when (b := false) (et_test (ev_is (ev_op (ev_isi (ev_var rfl) (fun H' e' => tq H' (e04.trans e')) k4) (ev_isi (ev_var rfl) (fun H' e' => tp H' (e04.trans e')) k4) (rv_ne rfl)) (by rw [decide_eq_true rfl]; rfl))) (fun hb => by cases hb) fun _ H5 e5 => ?_
      have e05 := e04.trans e5
      refine q_when (b := false) (et_test (ev_is (ev_op (ev_isi (ev_var rfl) (fun H' e' => tq H' (e05.trans e')) k5) (ev_isi (ev_var rfl) (fun H' e' => tp H' (e05.trans e')) k5) (rv_ne rfl)) (by rw [decide_eq_true rfl]; rfl))) (fun hb => by cases hb) fun _ H6 e6 => ?_
      have e06 := e05.trans e6
      have lenp : Ev (tCB (rLenS K) (tCons (tVar 0) tNil)) [some (.ref p), some (.ref q), none] H6 (.int (us.length : Int)) := by
        rcases hsq H6 e06 with ⟨a, b⟩ | ⟨a, b⟩
        · exact ev_len (ev_var rfl) a
        · exact ev_lenT (ev_var rfl) a
      have lenq : ∀ H7, Ex H6 H7 → Ev (tCB (rLenS K) (tCons (tVar 1) tNil)) [some (.ref p), some (.ref q), none] H7 (.int (vs.length : Int)) := fun H7 e7 => by
        rcases hsq H7 (e06.trans e7) with ⟨a, b⟩ | ⟨a, b⟩
        · exact ev_len (ev_var rfl) b
        · exact ev_lenT (ev_var rfl) b
      refine q_when (b := false) (et_test (ev_is (ev_op lenp (lenq H6 (Ex.refl H6)) (rv_ne rfl)) (by rw [hlen, decide_eq_true rfl]; rfl))) (fun hb => by cases hb) fun _ H7 e7 => ?_
      have e07 := e06.trans e7
      refine s_ret (ev_is (ev_all (bs := List.replicate vs.length true) (el_eq (el_lcR1 (n := (vs.length : Int)) (fun _ => true) (fun _ => V.bl true) (ea_cons (lenq H7 e7) ea_nil) (by omega) (fun _ => rfl) (fun _ _ _ _ => et_yes) fun i H8 e8 hi _ => ?_) ?_)) ?_) fun H9 e9 => k H9 (e07.trans e9)
      · have hiv : i < vs.length := by omega
        have hiu : i < us.length := by omega
        have gu := List.getElem?_eq_getElem hiu
        have gv := List.getElem?_eq_getElem hiv
        refine ev_callR (ea_cons (x := us[i]) (ev_op (ev_var rfl) (ev_var rfl) ?_) (ea_cons (x := vs[i]) (ev_op (ev_var rfl) (ev_var rfl) ?_) ea_nil)) fun H9 e9 Q9 q9 => ⟨_, _, rfl, (hall i _ _ gu gv).ex ((e07.trans e8).trans e9), q9⟩
        · rcases hsq H8 (e07.trans e8) with ⟨a, b⟩ | ⟨a, b⟩
          · exact fun H9 e9 Q q => .inl (rv_ixL (i := (i : Int)) a (at_nat gu) H9 e9 Q q)
          · exact fun H9 e9 Q q => .inr (rv_ixT (i := (i : Int)) a (at_nat gu) H9 e9 Q q)
        · rcases hsq H8 (e07.trans e8) with ⟨a, b⟩ | ⟨a, b⟩
          · exact fun H9 e9 Q q => .inl (rv_ixL (i := (i : Int)) b (at_nat gv) H9 e9 Q q)
          · exact fun H9 e9 Q q => .inr (rv_ixT (i := (i : Int)) b (at_nat gv) H9 e9 Q q)
      · rw [given_all (xs := List.replicate vs.length (V.bl true)) (by rw [List.length_replicate]; rfl) (fun i x hx => (List.eq_of_mem_replicate (List.mem_of_getElem? hx)).symm), List.map_replicate]
      · congr 1
        rw [List.all_replicate]
        cases vs.length <;> rfl

end SB

set_option maxHeartbeats 4000000
namespace SB
open PySem PySem.Spec PyProof.Rows L2
open TL (tl)
section
variable {X : Cx} {pins : List (Addr × Obj)} {σ : L2.St} {H : Hp} {s : Shared}
/-- a name is stored, and the object behind it is known -/
theorem store_tok {M : Model} {A : Around} {E : Value → Shared → Prop} {i : Nat} {x : Str} {v : V} {u : Value} {Q : Unit → Shared → Prop} (I : Inv X pins σ H s) (hN : X.N.Nodup) (hi : X.N[i]? = some x) (hk : X.env.scope.names.lookup x = some .local) (r : RelV v u)
    (h : ∀ s' m, Inv X pins (σ.set i (some v)) H s' → s'.heap.Ns X.env.locals m → m x = some u → s.toks < s'.toks → (∀ b o, b ≠ X.env.locals → s.heap.get? b = some o → s'.heap.get? b = some o) → Q () s') : wpAny M A (storeName X.env x u) Q E s := by
  obtain ⟨m, hn, hl⟩ := id I.loc
  have hc0 : (X.env.scope.kind == .class || (X.env.scope.kind == .module && X.env.locals != X.env.globals)) = false := by
    rw [I.ok.kind]
    rfl
  have len : i < σ.length := by
    rw [I.len]
    exact (List.getElem?_eq_some_iff.mp hi).1
  refine wpAny_storeName_local hk hn (fun g hg but => ?_) hc0
  obtain ⟨oL, _, _, hoL, _⟩ := id hn
  have sm : ∀ b, b ≠ X.env.locals → g.get? b = s.heap.get? b := fun b n => but.2 b n
  have ne : ∀ {b : Addr} {o : Obj}, X.s_0.heap.get? b = some o → b ≠ X.env.locals := fun e => Nat.ne_of_lt (Nat.lt_of_lt_of_le (Heap.lt_size e) I.ok.above)
  have I' : Inv X pins (σ.set i (some v)) H { s with heap := g, toks := s.toks + 1 } := by
    constructor
    · exact I.ok
    · exact I.os
    · exact I.bare
    · constructor
      · exact fun b o e n q z => (sm b (ne e)).trans (I.base.keep b o e n q z)
      · exact fun b o e n q z => (I.base.slot b o e n q z).imp fun sl y => (sm b (ne e)).trans y
      · exact I.base.free
      · exact fun b o e z => (I.base.there b o e z).imp fun o' y => (sm b (ne e)).trans y
      · exact I.base.tups
      · exact I.base.frzs
      · exact I.base.tbls
    · refine ⟨_, hg, fun j y w e1 e2 e3 => ?_⟩
      by_cases c : j = i
      · subst c
        obtain rfl : x = y := Option.some.inj (hi.symm.trans e1)
        rw [List.getElem?_set_self len] at e2
        obtain rfl : v = w := Option.some.inj (Option.some.inj e2)
        exact ⟨u, r, .inl ⟨hk, if_pos rfl⟩⟩
      · rw [List.getElem?_set_ne (fun z => c z.symm)] at e2
        obtain ⟨u', r', q⟩ := hl j y w e1 e2 e3
        refine ⟨u', r', ?_⟩
        have ny : y ≠ x := fun z => c (nodup_ix hN e1 (z ▸ hi))
        rcases q with ⟨k, e⟩ | ⟨k, d, e, z⟩
        · exact .inl ⟨k, (if_neg ny).trans e⟩
        · exact .inr ⟨k, d, e, z.sameBut but (I.cne y d e)⟩
    · exact fun y d e => (I.cell y d e).imp fun w z => z.sameBut but (I.cne y d e)
    · exact I.free
    · exact I.freeC
    · intro p hp
      have q := I.pin p hp
      exact ⟨(sm p.1 q.2.2.1).trans q.1, q.2⟩
    · intro b ob e
      refine (I.hok b ob e).stay (fun d w hd q => (sm d fun z => ?_).trans q) (fun _ q => q) fun _ _ q => q
      have f := I.free
      rw [← z] at f
      rcases hd with hd | hd
      · rw [← hd, f] at e
        cases e
      · rw [f] at hd
        cases hd
    · rw [List.length_set]
      exact I.len
  exact h _ _ I' hg (if_pos rfl) (Nat.lt_succ_self _) fun b o n e => (sm b n).trans e
end
/-- the text after i signs of lit have been spaced -/
def spaced (a b : Str) (z : Str) (l : List Nat) : Str := l.foldl (fun z c => Txt.replace z ⟨#[c]⟩ (a ++ ⟨#[c]⟩ ++ b)) z
def tSpaces (iy ix : Nat) (lit a b : Str) : TS := fun D σ H => ∃ z : Str, σ[iy]? = some (some (.str z)) ∧
  (∀ i, i < lit.cps.size → (spaced a b z (lit.cps.toList.take i)).length + ((spaced a b z (lit.cps.toList.take i)).length + 1) * (a.length + 1 + b.length) ≤ 16777216) ∧
  ∀ o : Option V, D.nx ((σ.set iy (some (.str (spaced a b z lit.cps.toList)))).set ix o) H
theorem set_back {α : Type} {l : List α} {i : Nat} {x : α} (h : l[i]? = some x) : l.set i x = l := by
  apply List.ext_getElem?
  intro j
  by_cases c : j = i
  · subst c
    rw [List.getElem?_set_self (List.getElem?_eq_some_iff.mp h).1, h]
  · rw [List.getElem?_set_ne (fun z => c z.symm)]
section
variable {X : Cx}
theorem ps_spaces {ix iy : Nat} {x y lit a b : Str} {px p1 p2 p3 py cp b1 b2 c1 c2 apos pos pos' fpos : Pos} {k k1 k2 : Nat} (hp : PassesOwn (model X.prog X.w) X.A X.env X.xe) (hc : X.calm = true) (hN : X.N.Nodup) (hx : X.N[ix]? = some x) (hy : X.N[iy]? = some y) (hxy : ix ≠ iy)
    (kx : X.env.scope.names.lookup x = some .local) (ky : X.env.scope.names.lookup y = some .local) (hlit : lit.cps.all (· < 128) = true) (ha : (a.length == 0) = false) (hb : (b.length == 0) = false)
    (hdx : (x == ("__debug__" : Str)) = false := by decide) (hdy : (y == ("__debug__" : Str)) = false := by decide) (hcy : (y == ("__classdict__" : Str)) = false := by decide)
    (hst : starEach [.Name x p2, .BinOp (.BinOp (.Constant (.str a) k1 c1) .Add (.Name x p3) b1) .Add (.Constant (.str b) k2 c2) b2] X.env =
      [(false, eval (.Name x p2) X.env), (false, eval (.BinOp (.BinOp (.Constant (.str a) k1 c1) .Add (.Name x p3) b1) .Add (.Constant (.str b) k2 c2) b2) X.env)] := by rfl)
    (hbase : attributeBase (.Name y p1) "replace" X.env (eval (.Name y p1) X.env) = eval (.Name y p1) X.env := by rfl) (hline : (apos.endLine == pos.line) = true := by rfl)
    (hsw : swapsWith (.Call (.Attribute (.Name y p1) "replace" apos) [.Name x p2, .BinOp (.BinOp (.Constant (.str a) k1 c1) .Add (.Name x p3) b1) .Add (.Constant (.str b) k2 c2) b2] [] pos) (some (.Name y py)) pos'.line X.env = pure false := by rfl)
    (hs : ∀ v, foldedSetIterable (.Constant (.str lit) k cp) X.env v = pure v := by intro _; rfl) :
    PS X (.For (.Name x px) (.Constant (.str lit) k cp) [.Assign [.Name y py] (.Call (.Attribute (.Name y p1) "replace" apos) [.Name x p2, .BinOp (.BinOp (.Constant (.str a) k1 c1) .Add (.Name x p3) b1) .Add (.Constant (.str b) k2 c2) b2] [] pos) pos'] [] fpos) (tSpaces iy ix lit a b) := by
  refine ⟨fun pins s σ H D I h => ?_⟩
  obtain ⟨z, hz, hbd, fin⟩ := h
  have hxl : ix < σ.length := by
    rw [I.len]
    exact (List.getElem?_eq_some_iff.mp hx).1
  have hyl : iy < σ.length := by
    rw [I.len]
    exact (List.getElem?_eq_some_iff.mp hy).1
  refine wpAny_For (Calls.Constant_str (wpAny_pyIter_ascii hlit ?_)) hs
  have I1 : Inv X pins σ H { s with toks := s.toks + 1 } := I.tok _
  let it := s.heap.objs.size
  have fok : FpOk X pins H it := I1.fpOk (Nat.le_refl _) (I1.hok.fresh (Nat.le_refl _))
  obtain ⟨f0, f1, f2, f3, f4, f5⟩ := fok
  refine codeAny_forLoop_any (fun n s' => ∃ (i : Nat) (o : Option V), n = lit.cps.size - i ∧ i ≤ lit.cps.size ∧ Inv X pins ((σ.set iy (some (.str (spaced a b z (lit.cps.toList.take i))))).set ix o) H s' ∧ s'.heap.IsStrIter it "str_ascii_iterator" lit s.toks i ∧ 1 ≤ s'.toks) ?_ lit.cps.size
    ⟨0, σ[ix], rfl, Nat.zero_le _, ?_, ⟨_, Heap.get?_push_size _ rfl, rfl, rfl⟩, Nat.succ_le_succ (Nat.zero_le _)⟩
  · rintro n s3 ⟨i, o, rfl, hi, I3, st3, ht3⟩
    by_cases go : i < lit.cps.size
    · have hcx : lit.cps[i]? = some lit.cps[i] := Array.getElem?_eq_getElem go
      generalize lit.cps[i] = c at hcx
      refine wpAny_passesOwn hp (wpAny_pyNext_ascii_item st3 hcx fun h4 st4 sb => ?_)
      have I4 : Inv X pins ((σ.set iy (some (.str (spaced a b z (lit.cps.toList.take i))))).set ix o) H { s3 with heap := h4, toks := s3.toks + 1 } := I3.turned (fun b' o' hb' e => sb.extBut b' o' hb' e) f0 f1 f3 f4 f5
      obtain ⟨oi, ei, ci, di⟩ := id st4
      refine wpAny_passesOwn hp (go_of (s := { s3 with heap := h4, toks := s3.toks + 1 }) ei ci di (by decide) ?_)
      refine wpAny_passesOwn hp (wpAny_assign_Name (store_tok (v := .str ⟨#[c]⟩) I4 hN hx kx ⟨_, rfl⟩ fun s6 m6 I6 hn6 hm6 ht6 keep6 => ?_))
      have st6 : s6.heap.IsStrIter it "str_ascii_iterator" lit s.toks (i + 1) := ⟨oi, keep6 _ _ f1 ei, ci, di⟩
      refine wpAny_passesOwn hp (wpAny_execs_cons (wpAny_Assign_Name (PySem.Call_method2 hbase hst hline (raw_name (v := .str (spaced a b z (lit.cps.toList.take i))) hy (.inl ky) I6 ?_ (fun v r => ?_) hdy hcy)) hsw))
      · rw [List.getElem?_set_ne hxy, List.getElem?_set_ne hxy, List.getElem?_set_self hyl]
      obtain ⟨tz, rfl⟩ := r
      refine ⟨"str", _, F.plainAttrs_str, F.slot_str_replace, F.type_str_replace, typeIs_str _ _ _, (fun _ e => nomatch e), Calls.callWith_builtin rfl (Calls.evalArgs_plain (Calls.spliced_cons ?_))⟩
      refine wpAny_Name (wpAny_loadName_local I6.ok.kind kx hn6 hm6 ?_) hdx
      refine Calls.spliced_cons (wpAny_BinOp (wpAny_BinOp (Calls.Constant_str (wpAny_Name (wpAny_loadName_local I6.ok.kind kx hn6 hm6 (P.add_str ?_)) hdx))))
      have h1 : ((⟨#[c]⟩ : Str).length == 0) = false := rfl
      have bz := hbd i go
      have l1 : (⟨#[c]⟩ : Str).length = 1 := rfl
      have sz : 16777216 ≤ sizeLine := by decide
      have bz2 : a.length + 1 + b.length ≤ 16777216 := by
        refine Nat.le_trans ?_ bz
        rw [Nat.add_mul, Nat.one_mul]
        omega
      rw [ha, h1]
      refine ⟨by rw [app_len]; omega, Calls.Constant_str (P.add_str ?_)⟩
      have h2 : ((a ++ (⟨#[c]⟩ : Str)).length == 0) = false := by
        rw [app_len, l1]
        rfl
      rw [h2, hb]
      refine ⟨by rw [app_len, app_len]; omega, Calls.spliced_nil ?_⟩
      have hne : ((⟨#[c]⟩ : Str) == a ++ ⟨#[c]⟩ ++ b) = false := by
        apply beq_eq_false_iff_ne.mpr
        intro e
        have := congrArg Str.length e
        rw [app_len, app_len, l1] at this
        have a0 : a.length ≠ 0 := by
          intro q
          rw [q] at ha
          cases ha
        omega
      have hz3 : a.length + 1 + b.length = (a ++ (⟨#[c]⟩ : Str) ++ b).length := by rw [app_len, app_len, l1]
      rw [hz3] at bz
      have lt : s3.toks + 1 < s6.toks := ht6
      have hu : s3.toks ≠ 0 := Nat.ne_of_gt ht3
      have hv : s6.toks + 1 + 1 + 1 ≠ 0 := Nat.succ_ne_zero _
      have huv : s3.toks ≠ s6.toks + 1 + 1 + 1 := Nat.ne_of_lt (Nat.lt_trans (Nat.lt_succ_self _) (Nat.lt_of_lt_of_le lt (Nat.le_add_right s6.toks 3)))
      refine PySem.SC.replace (u := s3.toks) (v := s6.toks + 1 + 1 + 1) hu hv huv hne bz fun t' k => ?_
      have hstep : spaced a b z (lit.cps.toList.take (i + 1)) = Txt.replace (spaced a b z (lit.cps.toList.take i)) ⟨#[c]⟩ (a ++ ⟨#[c]⟩ ++ b) := by
        rw [take_more (l := lit.cps.toList) (i := i) (x := c) (by rw [← hcx, Array.getElem?_toList])]
        unfold spaced
        rw [List.foldl_append]
        rfl
      generalize Txt.replace (spaced a b z (lit.cps.toList.take i)) ⟨#[c]⟩ (a ++ ⟨#[c]⟩ ++ b) = zz at hstep
      refine store_tok (v := .str zz) (I6.tok k) hN hy ky ⟨t', rfl⟩ fun s7 m7 I7 _ _ ht7 keep7 => wpAny_execs_nil ⟨lit.cps.size - (i + 1), Nat.sub_lt_sub_left go (Nat.lt_succ_self i), i + 1, some (.str ⟨#[c]⟩), rfl, go, ?_, ⟨oi, keep7 _ _ f1 (keep6 _ _ f1 ei), ci, di⟩, Nat.lt_of_le_of_lt (Nat.zero_le _) ht7⟩
      have e : ∀ (A C Z : Option V) (l : L2.St), (((l.set iy A).set ix o).set ix C).set iy Z = (l.set iy Z).set ix C := fun A C Z l => by
        rw [List.set_set, List.set_comm _ _ hxy, List.set_set]
      rw [e] at I7
      rw [hstep]
      exact I7
    · refine wpAny_passesOwn hp (wpAny_pyNext_ascii_end (I3.ok.hd hc) st3 (Array.getElem?_eq_none (by omega)) fun h4 eb => ?_)
      have I4 : Inv X pins ((σ.set iy (some (.str (spaced a b z (lit.cps.toList.take i))))).set ix o) H { s3 with heap := h4, toks := s3.toks } := I3.turned (fun b' o' hb' e => eb b' o' hb' e) f0 f1 f3 f4 f5
      have ei : lit.cps.toList.take i = lit.cps.toList := List.take_of_length_le (by show lit.cps.size ≤ i; omega)
      rw [ei] at I4
      exact wpAny_execs_nil ⟨_, H, I4, fin o⟩
  · have I2 : Inv X pins σ H { s with heap := s.heap.push { cls := .type "str_ascii_iterator", data := .fields #[.str lit s.toks, .int 0 0] }, toks := s.toks + 1 } := I.kept fun b' o' e => Heap.get?_push_of_some _ e
    rw [List.take_zero]
    show Inv X pins ((σ.set iy (some (.str z))).set ix σ[ix]) H _
    rw [set_back hz, set_back (List.getElem?_eq_getElem hxl)]
    exact I2
end
end SB

set_option maxHeartbeats 4000000
namespace SB
open PySem PySem.Spec PyProof.Rows L2
open TL (tl)
open Evl
def names8 : List Str := ["a", "bb", "abcdefgh", "x", "sa", "sb", "sc", "y"]
def nmC (nm : List Str) (k : Nat) : List Nat := tl (nm.getD k "")
def lstep (nm : List Str) (k : Nat) (s : Lk) (b : Bool) : List Nat := (if b then nmC nm k ++ [58, 32] else []) ++ tl s.1 ++ (match s.2 with
  | none => []
  | some t => 32 :: nmC nm t) ++ [59]
def lsteps (nm : List Str) : Nat → List Lk → List Bool → List (List Nat)
  | n, s :: r, b :: bs => lstep nm n s b :: lsteps nm (n + 1) r bs
  | _, _, _ => []
def lrob (nm : List Str) (a : Nat) (l : List Lk) (hs : List Bool) : List (List Nat) := (tl ("robot " : Str) ++ TL.numL a ++ [32, 123]) :: (lsteps nm 0 l hs ++ [[125]])
/-- the lines of the loose text after i robots -/
def llines (P : Plm) (nm : List Str) (h0 h1 : List Bool) (i : Nat) : List (List Nat) := hdC P :: ((if 0 < i then lrob nm P.a P.l0 h0 else []) ++ (if 1 < i then lrob nm P.b P.l1 h1 else []))
def looseT (P : Plm) (nm : List Str) (h0 h1 : List Bool) : List Nat := TL.joinL [10] (llines P nm h0 h1 2)
def ltok (nm : List Str) (k : Nat) (s : Lk) (b : Bool) : List (List Nat) := (if b then [nmC nm k, [58]] else []) ++ [tl s.1] ++ (match s.2 with
  | none => []
  | some t => [nmC nm t]) ++ [[59]]
def ltoks (nm : List Str) : Nat → List Lk → List Bool → List (List Nat)
  | n, s :: r, b :: bs => ltok nm n s b ++ ltoks nm (n + 1) r bs
  | _, _, _ => []
def robToks (nm : List Str) (a : Nat) (l : List Lk) (hs : List Bool) : List (List Nat) := [tl ("robot" : Str), TL.numL a, [123]] ++ (ltoks nm 0 l hs ++ [[125]])
def toks (P : Plm) (nm : List Str) (h0 h1 : List Bool) : List (List Nat) := [tl ("shelf" : Str)] ++ P.bx.map TL.numL ++ [[59]] ++ (robToks nm P.a P.l0 h0 ++ robToks nm P.b P.l1 h1)
structure Flags (l : List Lk) (hs : List Bool) : Prop where
  len : hs.length = l.length
  has : ∀ k, some k ∈ l.map (·.2) → hs[k]? = some true
def gaps : List Str := [" ", "  ", "\n", "\n "]
def glue (acc : Str) : List Str → List Str → Str
  | g :: gs, w :: ws => glue (acc ++ g ++ w) gs ws
  | _, _ => acc
/-- what remains to be shown of texts -/
structure MF : Prop where
  canon : ∀ P, DrawnP P → Reads (planText P) P
  words : ∀ P nm h0 h1, DrawnP P → List.Perm nm names8 → Flags P.l0 h0 → Flags P.l1 h1 → Txt.words (spaced " " " " (mkS (looseT P nm h0 h1)) [59, 58, 123, 125]) = (toks P nm h0 h1).map mkS
  reads : ∀ P nm h0 h1 gs, DrawnP P → List.Perm nm names8 → Flags P.l0 h0 → Flags P.l1 h1 → gs.length = (toks P nm h0 h1).length → (∀ g ∈ gs, g ∈ gaps) → Reads (glue "" gs ((toks P nm h0 h1).map mkS)) P
theorem lsteps_snoc (nm : List Str) : ∀ (l : List Lk) (n k : Nat) (hs : List Bool) (s : Lk) (b : Bool), l[k]? = some s → hs.length = k → lsteps nm n (l.take (k + 1)) (hs ++ [b]) = lsteps nm n (l.take k) hs ++ [lstep nm (n + k) s b]
  | [], _, k, _, _, _, h, _ => by simp at h
  | a :: r, n, 0, hs, s, b, h, hl => by
    obtain rfl : a = s := Option.some.inj h
    obtain rfl : hs = [] := List.eq_nil_of_length_eq_zero hl
    rfl
  | a :: r, n, k + 1, [], s, b, h, hl => by cases hl
  | a :: r, n, k + 1, c :: hs, s, b, h, hl => by
    have ih := lsteps_snoc nm r (n + 1) k hs s b h (Nat.succ.inj hl)
    show lstep nm n a c :: lsteps nm (n + 1) (r.take (k + 1)) (hs ++ [b]) = lstep nm n a c :: (lsteps nm (n + 1) (r.take k) hs ++ [lstep nm (n + (k + 1)) s b])
    rw [ih, show n + 1 + k = n + (k + 1) by omega]
theorem lsteps_len (nm : List Str) : ∀ (l : List Lk) (n : Nat) (hs : List Bool), (lsteps nm n l hs).length ≤ l.length
  | [], _, _ => by simp [lsteps]
  | _ :: _, _, [] => by simp [lsteps]
  | s :: r, n, b :: bs => by
    have := lsteps_len nm r (n + 1) bs
    simp only [lsteps, List.length_cons]
    omega
theorem nm_small {nm : List Str} (h : nm.Perm names8) (k : Nat) : (nmC nm k).length ≤ 8 := by
  unfold nmC
  rw [List.getD_eq_getElem?_getD]
  cases q : nm[k]? with
  | none => exact Nat.zero_le _
  | some w =>
    have m := h.mem_iff.mp (List.mem_of_getElem? q)
    have : ∀ w ∈ names8, (tl w).length ≤ 8 := by decide +kernel
    exact this w m
theorem lstep_small {nm : List Str} (h : nm.Perm names8) {k : Nat} {s : Lk} {b : Bool} (hw : s.1.length ≤ 5) : (lstep nm k s b).length ≤ 40 := by
  unfold lstep
  have e0 := len_tl s.1
  have e1 : (if b then nmC nm k ++ [58, 32] else []).length ≤ 10 := by
    have := nm_small h k
    cases b with
    | true =>
      show (nmC nm k ++ [58, 32]).length ≤ 10
      rw [List.length_append]
      show _ + 2 ≤ 10
      omega
    | false => exact Nat.zero_le _
  have e2 : (match s.2 with | none => [] | some t => 32 :: nmC nm t).length ≤ 10 := by
    cases s.2 with
    | none => exact Nat.zero_le _
    | some t =>
      have := nm_small h t
      show (nmC nm t).length + 1 ≤ 10
      omega
  simp only [List.length_append, List.length_cons, List.length_nil]
  omega
theorem glue_snoc : ∀ (acc : Str) (gs ws : List Str) (i : Nat) (g w : Str), gs.length = i → ws[i]? = some w → glue acc (gs ++ [g]) (ws.take (i + 1)) = glue acc gs (ws.take i) ++ g ++ w
  | acc, [], [], i, g, w, hl, hw => by simp at hw
  | acc, [], v :: ws, i, g, w, hl, hw => by
    obtain rfl : 0 = i := hl
    obtain rfl : v = w := Option.some.inj hw
    rfl
  | acc, h :: gs, [], i, g, w, hl, hw => by simp at hw
  | acc, h :: gs, v :: ws, 0, g, w, hl, hw => by cases hl
  | acc, h :: gs, v :: ws, i + 1, g, w, hl, hw => by
    have := glue_snoc (acc ++ h ++ v) gs ws i g w (Nat.succ.inj hl) hw
    exact this
theorem glue_len : ∀ (acc : Str) (gs ws : List Str), (∀ g ∈ gs, g.length ≤ 2) → (∀ w ∈ ws, w.length ≤ 8) → (glue acc gs ws).length ≤ acc.length + 10 * gs.length
  | acc, [], [], _, _ => Nat.le_add_right _ _
  | acc, [], _ :: _, _, _ => Nat.le_add_right _ _
  | acc, _ :: _, [], _, _ => Nat.le_add_right _ _
  | acc, g :: gs, w :: ws, hg, hw => by
    have := glue_len (acc ++ g ++ w) gs ws (fun x hx => hg x (List.mem_cons_of_mem _ hx)) (fun x hx => hw x (List.mem_cons_of_mem _ hx))
    have a1 := hg g (List.mem_cons_self ..)
    have a2 := hw w (List.mem_cons_self ..)
    rw [app_len, app_len] at this
    show (glue (acc ++ g ++ w) gs ws).length ≤ _
    rw [List.length_cons]
    omega
theorem ltoks_len (nm : List Str) : ∀ (l : List Lk) (n : Nat) (hs : List Bool), (ltoks nm n l hs).length ≤ 5 * l.length
  | [], _, _ => by simp [ltoks]
  | _ :: _, _, [] => by simp [ltoks]
  | s :: r, n, b :: bs => by
    have := ltoks_len nm r (n + 1) bs
    have e : (ltok nm n s b).length ≤ 5 := by
      unfold ltok
      cases b <;> cases s.2 <;> simp
    simp only [ltoks, List.length_append, List.length_cons]
    omega
theorem toks_len {P : Plm} {nm : List Str} {h0 h1 : List Bool} (h : DrawnP P) : (toks P nm h0 h1).length ≤ 200 := by
  have a := h.hi
  have b := h.k0.hi
  have c := h.k1.hi
  have d := ltoks_len nm P.l0 0 h0
  have e := ltoks_len nm P.l1 0 h1
  unfold toks robToks
  simp only [List.length_append, List.length_cons, List.length_nil, List.length_map]
  omega
theorem ltoks_small {nm : List Str} (h : nm.Perm names8) : ∀ (l : List Lk) (n : Nat) (hs : List Bool), (∀ s ∈ l, s.1.length ≤ 5) → ∀ x ∈ ltoks nm n l hs, x.length ≤ 8
  | [], _, _, _, x, hx => by simp [ltoks] at hx
  | _ :: _, _, [], _, x, hx => by simp [ltoks] at hx
  | s :: r, n, b :: bs, hl, x, hx => by
    rcases List.mem_append.mp hx with hx | hx
    · have e := hl s (List.mem_cons_self ..)
      have e2 := len_tl s.1
      unfold ltok at hx
      simp only [List.mem_append, List.mem_singleton] at hx
      rcases hx with ((hx | hx) | hx) | hx
      · cases b with
        | false => cases hx
        | true =>
          rcases List.mem_cons.mp hx with hx | hx
          · rw [hx]
            exact nm_small h n
          · rw [List.mem_singleton.mp hx]
            decide
      · rw [hx]
        omega
      · cases q : s.2 with
        | none => rw [q] at hx; cases hx
        | some t =>
          rw [q] at hx
          rw [List.mem_singleton.mp hx]
          exact nm_small h t
      · rw [hx]
        decide
    · exact ltoks_small h r (n + 1) bs (fun s hs => hl s (List.mem_cons_of_mem _ hs)) x hx
theorem toks_small {P : Plm} {nm : List Str} {h0 h1 : List Bool} (hP : DrawnP P) (h : nm.Perm names8) : ∀ x ∈ toks P nm h0 h1, x.length ≤ 8 := fun x hx => by
  have k0 : ∀ s ∈ P.l0, s.1.length ≤ 5 := fun s hs => cmd_len (hP.k0.cmd s hs)
  have k1 : ∀ s ∈ P.l1, s.1.length ≤ 5 := fun s hs => cmd_len (hP.k1.cmd s hs)
  have hi := hP.hi
  have la := hP.la
  have lb := hP.lb
  have num : ∀ n : Nat, n < 100 → (TL.numL n).length ≤ 8 := fun n hn => Nat.le_trans (TL.numL_len (k := 2) (by decide) hn) (by decide)
  have rb : ∀ (a : Nat) (l : List Lk) (hs : List Bool), a < 100 → (∀ s ∈ l, s.1.length ≤ 5) → ∀ x ∈ robToks nm a l hs, x.length ≤ 8 := fun a l hs ha hl x hx => by
    unfold robToks at hx
    rcases List.mem_append.mp hx with hx | hx
    · rcases List.mem_cons.mp hx with hx | hx
      · rw [hx]
        decide +kernel
      · rcases List.mem_cons.mp hx with hx | hx
        · rw [hx]
          exact num a ha
        · rw [List.mem_singleton.mp hx]
          decide
    · rcases List.mem_append.mp hx with hx | hx
      · exact ltoks_small h l 0 hs hl x hx
      · rw [List.mem_singleton.mp hx]
        decide
  unfold toks at hx
  rcases List.mem_append.mp hx with hx | hx
  · rcases List.mem_append.mp hx with hx | hx
    · rcases List.mem_append.mp hx with hx | hx
      · rw [List.mem_singleton.mp hx]
        decide +kernel
      · obtain ⟨n, hn, rfl⟩ := List.mem_map.mp hx
        have := hP.most n hn
        exact num n (by omega)
    · rw [List.mem_singleton.mp hx]
      decide
  · rcases List.mem_append.mp hx with hx | hx
    · exact rb P.a P.l0 h0 (by omega) k0 x hx
    · exact rb P.b P.l1 h1 (by omega) k1 x hx
theorem llines_small {P : Plm} {nm : List Str} {h0 h1 : List Bool} (hP : DrawnP P) (h : nm.Perm names8) : ∀ x ∈ llines P nm h0 h1 2, x.length ≤ 60 := fun x hx => by
  have hi := hP.hi
  have la := hP.la
  have lb := hP.lb
  have st : ∀ (l : List Lk) (n : Nat) (hs : List Bool), (∀ s ∈ l, s.1.length ≤ 5) → ∀ x ∈ lsteps nm n l hs, x.length ≤ 60 := fun l => by
    induction l with
    | nil => intro n hs _ x hx; simp [lsteps] at hx
    | cons s r ih =>
      intro n hs hl x hx
      cases hs with
      | nil => simp [lsteps] at hx
      | cons b bs =>
        rcases List.mem_cons.mp hx with hx | hx
        · rw [hx]
          exact Nat.le_trans (lstep_small h (hl s (List.mem_cons_self ..))) (by decide)
        · exact ih (n + 1) bs (fun s hs => hl s (List.mem_cons_of_mem _ hs)) x hx
  have rb : ∀ (a : Nat) (l : List Lk) (hs : List Bool), a < 12 → (∀ s ∈ l, s.1 ∈ commands) → ∀ x ∈ lrob nm a l hs, x.length ≤ 60 := fun a l hs ha hl x hx => by
    rcases List.mem_cons.mp hx with hx | hx
    · rw [hx]
      have := TL.numL_len (n := a) (k := 2) (by decide) (by omega)
      have e := robot_s
      simp only [List.length_append, List.length_cons, List.length_nil]
      omega
    · rcases List.mem_append.mp hx with hx | hx
      · exact st l 0 hs (fun s hs => cmd_len (hl s hs)) x hx
      · rw [List.mem_singleton.mp hx]
        decide
  rcases List.mem_cons.mp hx with hx | hx
  · rw [hx]
    exact hdC_len hP.ok
  · rcases List.mem_append.mp hx with hx | hx
    · exact rb P.a P.l0 h0 (by omega) hP.k0.cmd x hx
    · exact rb P.b P.l1 h1 (by omega) hP.k1.cmd x hx
theorem llines_len {P : Plm} {nm : List Str} {h0 h1 : List Bool} (hP : DrawnP P) : (llines P nm h0 h1 2).length ≤ 30 := by
  have a := hP.k0.hi
  have b := hP.k1.hi
  have c := lsteps_len nm P.l0 0 h0
  have d := lsteps_len nm P.l1 0 h1
  show (lrob nm P.a P.l0 h0 ++ lrob nm P.b P.l1 h1).length + 1 ≤ 30
  unfold lrob
  simp only [List.length_append, List.length_cons, List.length_nil]
  omega
theorem spaced_len (a b : Str) (hab : a.length + 1 + b.length ≤ 3) : ∀ (l : List Nat) (z : Str), (spaced a b z l).length + 1 ≤ (z.length + 1) * 4 ^ l.length
  | [], z => by
    show z.length + 1 ≤ (z.length + 1) * 1
    omega
  | c :: l, z => by
    have ih := spaced_len a b hab l (Txt.replace z ⟨#[c]⟩ (a ++ ⟨#[c]⟩ ++ b))
    have h := TK.replace_len z ⟨#[c]⟩ (a ++ ⟨#[c]⟩ ++ b)
    rw [app_len, app_len] at h
    have h1 : (⟨#[c]⟩ : Str).length = 1 := rfl
    rw [h1] at h
    have h2 : (z.length + 1) * (a.length + 1 + b.length) ≤ (z.length + 1) * 3 := Nat.mul_le_mul_left _ hab
    have h3 : (Txt.replace z ⟨#[c]⟩ (a ++ ⟨#[c]⟩ ++ b)).length + 1 ≤ (z.length + 1) * 4 := by omega
    have h4 := Nat.mul_le_mul_right (4 ^ l.length) h3
    show (spaced a b (Txt.replace z ⟨#[c]⟩ (a ++ ⟨#[c]⟩ ++ b)) l).length + 1 ≤ (z.length + 1) * 4 ^ (l.length + 1)
    rw [Nat.pow_succ, Nat.mul_comm (4 ^ l.length) 4, ← Nat.mul_assoc]
    exact Nat.le_trans ih h4
theorem el_words {K : PySem.W.Frag} {σ : L2.St} {H : Hp} {ta : TE} {a : Str} (h : Ev ta σ H (.str a)) (hz : a.length + 2 ≤ sizeLine) :
    EvL (tM0 (fun x xs H Q => ∃ a, x = V.str a ∧ xs = [] ∧ a.length + 2 ≤ sizeLine ∧ rNewStrs (Txt.words a) H Q) ta) σ H ((Txt.words a).map V.str) := fun H1 e Q q =>
  h H1 e _ fun H2 e2 => ⟨⟨a, rfl⟩, a, rfl, rfl, hz, fun p hp => q p _ (fresh_back e2 hp) (e2.trans (Ex.new hp)) upd_same⟩
theorem PlnD.exn {H H' : Hp} {d t sh st ls s0 s1 : Addr} {w0 w1 : List V} {P : Plm} (e : ExN d H H') (hd : DAt d H) (hP : DrawnP P) (h : PlnD H t sh st ls s0 s1 w0 w1 P) : PlnD H' t sh st ls s0 s1 w0 w1 P := by
  obtain ⟨xs, hx, a, b, bs, rfl, _⟩ := hd
  have nt : ∀ {p : Addr} {us : List V}, H p = some (.tup us) → p ≠ d := fun hp z => by
    rw [z, hx] at hp
    cases hp
  have nl : ∀ {p : Addr} {us : List V}, H p = some (.lst us) → (∀ c, us.head? = some (.int c) → False) → p ≠ d := fun hp hn z => by
    rw [z, hx] at hp
    cases hp
    exact hn _ rfl
  have nk : ∀ {us : List V} {l : List Lk}, All (LkAt H) us l → 1 ≤ l.length → ∀ c, us.head? = some (.int c) → False := fun hA h1 c hc => by
    cases hA with
    | nil => cases h1
    | cons hu _ =>
      obtain ⟨b, rfl, _⟩ := hu
      cases hc
  exact ⟨e _ _ (nt h.ht) h.ht, e _ _ (nt h.hsh) h.hsh, e _ _ (nt h.hst) h.hst, e _ _ (nl h.hls (fun _ hc => by cases hc)) h.hls, e _ _ (nl h.h0 (nk h.k0 hP.k0.lo)) h.h0, e _ _ (nl h.h1 (nk h.k1 hP.k1.lo)) h.h1,
    h.k0.imp fun v x r => r.exn e ⟨_, hx, a, b, bs, rfl, ‹_›⟩, h.k1.imp fun v x r => r.exn e ⟨_, hx, a, b, bs, rfl, ‹_›⟩⟩
theorem PlnD.ex {H H' : Hp} {t sh st ls s0 s1 : Addr} {w0 w1 : List V} {P : Plm} (e : Ex H H') (h : PlnD H t sh st ls s0 s1 w0 w1 P) : PlnD H' t sh st ls s0 s1 w0 w1 P :=
  ⟨e _ _ h.ht, e _ _ h.hsh, e _ _ h.hst, e _ _ h.hls, e _ _ h.h0, e _ _ h.h1, h.k0.imp fun v x r => r.ex e, h.k1.imp fun v x r => r.ex e⟩
end SB

set_option maxHeartbeats 4000000
namespace SB
open PySem PySem.Spec PyProof.Rows L2
open TL (tl)
open Evl
variable {P : Program} {w : World} {K : PySem.W.Frag} {mg : Str → Option Value} {base : Heap}


theorem ok__law_equal (T : Txt K mg) : FnR P w K mg base (L2.CX P w) 2 (He.ga K "_law_equal") (spEq 2) := by
  have KP : PySem.W.keepIn K (.ref (He.ga K "_law_equal")) = true := by
    obtain ⟨_, F⟩ := T.F__law_equal
    exact F.kp
  have b0 : FnR P w K mg base (L2.CX P w) 0 (He.ga K "_law_equal") (spEq 0) := fun A outer s H us vs Q E _ _ _ h => by
    obtain ⟨x, y, _, hE, _⟩ := h
    exact hE.elim
  exact ok__law_equal_S T (ok__law_equal_S T b0 KP) KP
def spLaw (K : PySem.W.Frag) : Sp := fun vs H Q _ => ∃ (sc : Addr) (ns : List Int), vs = [.ref sc] ∧ SqL K H sc (ns.map V.int) ∧ ns.length ≤ 63 ∧ ∀ H', Q (.bl true) H'

theorem ok_law (M : MF) (T : Txt K mg) {fd : FuncData} (F : FunD K "law" "law" (defArgs s_law) (defBody s_law) (defScope s_law) [] [] (He.ga K "law") fd) : FnOk P w K mg base (L2.CX P w) 10 (He.ga K "law") fd P_law (spLaw K) := by
  have G__law_random := ok__law_random (P := P) (w := w) (base := base) T
  have KP__law_random : PySem.W.keepIn K (.ref (He.ga K "_law_random")) = true := by
    obtain ⟨_, F⟩ := T.F__law_random
    exact F.kp
  have G__law_plan := ok__law_plan (P := P) (w := w) (base := base) T
  have KP__law_plan : PySem.W.keepIn K (.ref (He.ga K "_law_plan")) = true := by
    obtain ⟨_, F⟩ := T.F__law_plan
    exact F.kp
  have G__law_text := ok__law_text (P := P) (w := w) (base := base) T
  have KP__law_text : PySem.W.keepIn K (.ref (He.ga K "_law_text")) = true := by
    obtain ⟨_, F⟩ := T.F__law_text
    exact F.kp
  have G__law_shuffled := ok__law_shuffled (P := P) (w := w) (base := base) T
  have KP__law_shuffled : PySem.W.keepIn K (.ref (He.ga K "_law_shuffled")) = true := by
    obtain ⟨_, F⟩ := T.F__law_shuffled
    exact F.kp
  have G__law_equal := ok__law_equal (P := P) (w := w) (base := base) T
  have KP__law_equal : PySem.W.keepIn K (.ref (He.ga K "_law_equal")) = true := by
    obtain ⟨_, F⟩ := T.F__law_equal
    exact F.kp
  have G_count_steps := ok_count_steps (P := P) (w := w) (base := base) T
  have KP_count_steps : PySem.W.keepIn K (.ref (He.ga K "count_steps")) = true := by
    obtain ⟨_, F⟩ := T.F_count_steps
    exact F.kp
  have G_format_plan := ok_format_plan (P := P) (w := w) (base := base) T
  have KP_format_plan : PySem.W.keepIn K (.ref (He.ga K "format_plan")) = true := by
    obtain ⟨_, F⟩ := T.F_format_plan
    exact F.kp
  have G__law_below := ok__law_below (P := P) (w := w) (base := base) T
  have KP__law_below : PySem.W.keepIn K (.ref (He.ga K "_law_below")) = true := by
    obtain ⟨_, F⟩ := T.F__law_below
    exact F.kp
  refine (F.ok sc_law (fun vs H Q E h => ?_) (fun cdv A outer s H vs Q E hr h => ?_))
  · obtain ⟨sc, ns, rfl, _⟩ := h
    rfl
  · have hu := hu_of hr
    obtain ⟨sc, ns, rfl, hs, hl, k⟩ := h
    refine ⟨_, (pss_cons (ps_set (i := 1) sc_law.nd rfl (Or.inl rfl) (pe_callR G__law_random (hr.mono (by decide)) T.g__law_random KP__law_random px (pa_cons (pv 0) (pa_cons pe_int pa_nil))))
        (pss_cons (ps_for (passes_of rfl) rfl (pi_range1 (by rfl) T.b_range (pa_cons pe_int pa_nil)) (pg_name (i := 2) sc_law.nd rfl (Or.inl rfl)) (pss_cons (ps_set (i := 3) sc_law.nd rfl (Or.inl rfl) (pe_callR G__law_plan (hr.mono (by decide)) T.g__law_plan KP__law_plan px (pa_cons (pv 1) (pa_cons pe_int pa_nil))))
        (pss_cons (ps_set (i := 4) sc_law.nd rfl (Or.inl rfl) (pe_callR G__law_text (hr.mono (by decide)) T.g__law_text KP__law_text px (pa_cons (pv 3) pa_nil)))
        (pss_cons (ps_set (i := 5) sc_law.nd rfl (Or.inl rfl) (pe_callR G__law_shuffled (hr.mono (by decide)) T.g__law_shuffled KP__law_shuffled px (pa_cons (pv 1) (pa_cons (pe_lst (pa_cons pe_str (pa_cons pe_str (pa_cons pe_str (pa_cons pe_str (pa_cons pe_str (pa_cons pe_str (pa_cons pe_str (pa_cons pe_str pa_nil))))))))) pa_nil))))
        (pss_cons (ps_set (i := 6) sc_law.nd rfl (Or.inl rfl) (pe_lst (pa_cons (pe_op op_add_str (pe_op op_add_str pe_str (pe_join pe_str (pe_lc (own := [("_law_pieces", 17)]) rfl sc_law.nd (pi_tup (pe_ix ix_tup (pv 3) pe_int (fun _ _ => rfl))) (blkOk_by (own := [("_law_pieces", 17)]) (N := N_law) (sc := defScope s_law) (by decide +kernel)) (fun _ _ _ _ _ => by exact pg_name (i := 17) sc_law.nd rfl (Or.inl rfl)) (fun _ _ _ _ _ => by exact pts_nil) (fun _ _ _ _ _ => by exact (pe_callTy call_str_int (by rfl) T.b_str (by decide +kernel) (pa_cons (pv 17) pa_nil)))))) pe_str) pa_nil)))
        (pss_cons (ps_for (passes_of rfl) rfl (pi_range1 (by rfl) T.b_range (pa_cons pe_int pa_nil)) (pg_name (i := 7) sc_law.nd rfl (Or.inl rfl)) (pss_cons (ps_expr (pe_bm PySem.F.plainAttrs_list PySem.F.slot_list_append PySem.F.type_list_append mt_append (pv 6) (pa_cons (pe_op op_add_str (pe_op op_add_str pe_str (pe_callTy call_str_int (by rfl) T.b_str (by decide +kernel) (pa_cons (pe_ix ix_tup (pe_ix ix_tup (pv 3) pe_int (fun _ _ => rfl)) (pv 7) (fun _ _ => rfl)) pa_nil))) pe_str) pa_nil)))
        (pss_cons (ps_set (i := 8) sc_law.nd rfl (Or.inl rfl) (pe_ix ix_list (pe_ix ix_tup (pv 3) pe_int (fun _ _ => rfl)) (pv 7) (fun _ _ => rfl)))
        (pss_cons (ps_setLc (i := 9) (g := gTup K 2 (gCons (gName 18) (gCons (gName 19) gNil))) (own := [("_law_word", 18), ("_law_goal", 19)]) rfl sc_law.nd rfl rfl (sw_true rfl rfl rfl (by decide +kernel)) (pi_list (pv 8)) (blkOk_by (own := [("_law_word", 18), ("_law_goal", 19)]) (N := N_law) (sc := defScope s_law) (by decide +kernel)) (fun _ _ _ _ _ => by exact pg_tup rfl (pgs_cons (pg_name (i := 18) sc_law.nd rfl (Or.inl rfl)) (pgs_cons (pg_name (i := 19) sc_law.nd rfl (Or.inl rfl)) pgs_nil))) (fun _ _ _ _ _ => by exact (pts_one (pt_cmpR op_notN (pv 19) pe_non (nomark _)))) (fun _ _ _ _ _ => by exact (pv 19)))
        (pss_cons (ps_for (passes_of rfl) rfl (pi_range1 (by rfl) T.b_range (pa_cons (pe_callB call_len_seq (by rfl) T.b_len (by decide +kernel) (pa_cons (pv 8) pa_nil)) pa_nil)) (pg_name (i := 10) sc_law.nd rfl (Or.inl rfl)) (pss_cons (ps_set (i := 11) sc_law.nd rfl (Or.inl rfl) (pe_or (pe_cmpR op_in_seq (pv 10) (pv 9) (by rfl)) (pe_one (pe_cmpR op_eq (pe_callR G__law_below (hr.mono (by decide)) T.g__law_below KP__law_below px (pa_cons (pv 1) (pa_cons pe_int pa_nil))) pe_int (nomark _)))))
        (pss_cons (ps_set (i := 12) sc_law.nd rfl (Or.inl rfl) (pe_ifExp (pt_cmpR op_notN (pe_ix ix_tup (pe_ix ix_list (pv 8) (pv 10) (fun _ _ => rfl)) pe_int (fun _ _ => rfl)) pe_non (nomark _)) (pe_op op_add_str pe_str (pe_ix ix_list (pv 5) (pe_ix ix_tup (pe_ix ix_list (pv 8) (pv 10) (fun _ _ => rfl)) pe_int (fun _ _ => rfl)) (fun _ _ => rfl))) pe_str))
        (pss_one (ps_expr (pe_bm PySem.F.plainAttrs_list PySem.F.slot_list_append PySem.F.type_list_append mt_append (pv 6) (pa_cons (pe_op op_add_str (pe_op op_add_str (pe_op op_add_str (pe_ifExp (pt_val (pv 11)) (pe_op op_add_str (pe_ix ix_list (pv 5) (pv 10) (fun _ _ => rfl)) pe_str) pe_str) (pe_ix ix_tup (pe_ix ix_list (pv 8) (pv 10) (fun _ _ => rfl)) pe_int (fun _ _ => rfl))) (pv 12)) pe_str) pa_nil)))))))
        (pss_one (ps_expr (pe_bm PySem.F.plainAttrs_list PySem.F.slot_list_append PySem.F.type_list_append mt_append (pv 6) (pa_cons pe_str pa_nil)))))))))
        (pss_cons (ps_set (i := 13) sc_law.nd rfl (Or.inl rfl) (pe_join pe_str (pv 6)))
        (pss_cons (ps_spaces (ix := 14) (iy := 13) (passes_of rfl) rfl sc_law.nd rfl rfl (by decide) rfl rfl (by decide +kernel) (by decide +kernel) (by decide +kernel))
        (pss_cons (ps_set (i := 15) sc_law.nd rfl (Or.inl rfl) pe_str)
        (pss_cons (ps_for (passes_of rfl) rfl (pi_list (pe_words (pv 13))) (pg_name (i := 16) sc_law.nd rfl (Or.inl rfl)) (pss_one (ps_set (i := 15) sc_law.nd rfl (Or.inl rfl) (pe_op op_add_str (pe_op op_add_str (pv 15) (pe_ix ix_list (pe_lst (pa_cons pe_str (pa_cons pe_str (pa_cons pe_str (pa_cons pe_str pa_nil))))) (pe_callR G__law_below (hr.mono (by decide)) T.g__law_below KP__law_below px (pa_cons (pv 1) (pa_cons pe_int pa_nil))) (fun _ _ => rfl))) (pv 16)))))
        (pss_cons (ps_if (pt_not (pt_val (pe_callR G__law_equal (hr.mono (by decide)) T.g__law_equal KP__law_equal px (pa_cons (pe_lst (pa_cons (pe_callR G_format_plan (hr.mono (by decide)) T.g_format_plan KP_format_plan px (pa_cons (pv 4) pa_nil)) (pa_cons (pe_callR G_format_plan (hr.mono (by decide)) T.g_format_plan KP_format_plan px (pa_cons (pv 15) pa_nil)) pa_nil))) (pa_cons (pe_lst (pa_cons (pv 4) (pa_cons (pv 4) pa_nil))) pa_nil))))) (pss_one (ps_ret pe_bl)) pss_nil)
        (pss_one (ps_if (pt_not (pt_val (pe_callR G__law_equal (hr.mono (by decide)) T.g__law_equal KP__law_equal px (pa_cons (pe_callR G_count_steps (hr.mono (by decide)) T.g_count_steps KP_count_steps px (pa_cons (pv 15) pa_nil)) (pa_cons (pe_tup (pa_cons (pe_callB call_len_seq (by rfl) T.b_len (by decide +kernel) (pa_cons (pe_ix ix_list (pe_ix ix_tup (pv 3) pe_int (fun _ _ => rfl)) pe_int (fun _ _ => rfl)) pa_nil)) (pa_cons (pe_callB call_len_seq (by rfl) T.b_len (by decide +kernel) (pa_cons (pe_ix ix_list (pe_ix ix_tup (pv 3) pe_int (fun _ _ => rfl)) pe_int (fun _ _ => rfl)) pa_nil)) pa_nil))) pa_nil))))) (pss_one (ps_ret pe_bl)) pss_nil)))))))))))))
        (pss_one (ps_ret pe_bl)))), ?_⟩
    have sz : 16777216 ≤ sizeLine := by decide
    have two : 2 ≤ sizeLine := by omega
    refine q_setH ⟨_, rfl, sc, ns, 3, rfl, hs, hl, fun d H0 _ _ hd0 => ?_⟩
    refine q_forR1 (n := 3) (ea_cons ev_c ea_nil) (by omega) (fun i σ' H' => ∃ (y2 y3 y4 y5 y6 y7 y8 y9 y10 y11 y12 y13 y14 y15 y16 : Option V), σ' = [some (.ref sc), some (.ref d), y2, y3, y4, y5, y6, y7, y8, y9, y10, y11, y12, y13, y14, y15, y16, none, none, none] ∧ DAt d H')
      (fun H1 e1 => ⟨none, none, none, none, none, none, none, none, none, none, none, none, none, none, none, rfl, hd0.ex e1⟩) ?_ (fun σ' H' _ => s_ret ev_c fun H2 e2 => k H2)
    rintro i0 σ' H1 hi0 ⟨x2, y3, y4, y5, y6, y7, y8, y9, y10, y11, y12, y13, y14, y15, y16, rfl, hd⟩
    generalize hy2 : some (V.int (i0 : Int)) = y2
    refine q_setH ⟨_, rfl, d, rfl, hd, fun v Pl H2 e2 d2 ⟨t, sh, st, ls, s0, s1, w0, w1, hv, h2⟩ _ hP => ?_⟩
    subst hv
    have hO := hP.ok
    refine q_asg (ev_callR (ea_cons (ev_var rfl) ea_nil) fun H' e' Q' q' => ⟨_, Pl, rfl, ⟨t, sh, st, ls, s0, s1, w0, w1, rfl, h2.ex e'⟩, hP, q'⟩) fun H3 e3 => ?_
    have h3 := h2.ex e3
    have d3 := d2.ex e3
    refine q_setH ⟨_, rfl, by show 8 ≤ sizeLine; omega, fun np nnp => ⟨d, np, names8, rfl, d3.put nnp, upd_same, by decide, by decide +kernel, fun nl nm H4 nnl e4 d4 h4n pm => ?_⟩⟩
    have x34 : ExN d H3 H4 := ((ExN.refl d H3).new nnp).trans e4
    have h4 := h3.exn x34 d3 hP
    have nld : nl ≠ d := (d3.put nnp).ne nnl
    have nml : nm.length = 8 := pm.length_eq
    have hhi := hP.hi
    have hla := hP.la
    have hlb := hP.lb
    -- the first line
    have hb2 : ∀ y ∈ Pl.bx.map numS, y.length ≤ 2 := fun y hy => by
      obtain ⟨n, hn, rfl⟩ := List.mem_map.mp hy
      have := hO.most n hn
      exact numS_len (by omega)
    have hsum := sum_le _ hb2
    rw [List.length_map] at hsum
    have b1 : ((" " : Str)).length = 1 := by decide +kernel
    have etl : tl (Txt.join (" " : Str) (Pl.bx.map numS)) = TL.joinL [32] (Pl.bx.map TL.numL) := by
      rw [TL.join_eq, TL.tl_join, blank1, List.map_map]
      exact congrArg (TL.joinL [32]) (List.map_congr_left fun n _ => numS_tl n)
    have hjl : (Txt.join (" " : Str) (Pl.bx.map numS)).length ≤ 60 := by
      rw [← len_tl, etl]
      have := hdC_len hO
      unfold hdC at this
      simp only [List.length_append] at this
      omega
    have s6 : (("shelf " : Str)).length = 6 := by decide +kernel
    have s1' : ((";" : Str)).length = 1 := by decide +kernel
    refine q_asgL (el_lst (vs := [V.str (mkS (hdC Pl))]) (ea_cons (ev_is (ev_op (ev_op ev_c (ev_joinN (ys := Pl.bx.map numS) ev_c (el_eq (el_lcT (xs := Pl.bx.map fun (n : Nat) => V.int n) (fun _ => true) (fun i => V.str (numS (Pl.bx.getD i 0))) (ev_op (ev_var rfl) ev_c (rv_ixT (i := ((0 : Nat) : Int)) (st_of h4.ht) (at_nat rfl))) (st_of h4.hsh) (by rw [List.length_map]; omega) (fun _ => rfl) (fun _ _ _ _ _ => et_yes) fun i y H3 e3 hy _ => ?_) (given_all (by rw [List.length_map, List.length_map, List.length_map]) fun i y hy => ?_)) (by rw [List.length_map, b1]; omega)) (rv_addS (by omega))) ev_c (rv_addS (by rw [app_len]; omega))) (congrArg V.str (tl_inj ?_))) ea_nil) (by show 1 ≤ 100000; decide)) fun p H5 np5 e5 h5 => ?_
    · rw [List.getElem?_map] at hy
      cases q : Pl.bx[i]? with
      | none => rw [q] at hy; cases hy
      | some n =>
        rw [q] at hy
        obtain rfl : V.int n = y := Option.some.inj hy
        have := hO.most n (List.mem_of_getElem? q)
        rw [List.getD_eq_getElem?_getD, q]
        exact ev_strI (n := n) (ev_var rfl) (by omega)
    · rw [List.map_map, List.getElem?_map] at hy
      cases q : Pl.bx[i]? with
      | none => rw [q] at hy; cases hy
      | some n =>
        rw [q] at hy
        rw [List.getD_eq_getElem?_getD, q]
        exact Option.some.inj hy
    · rw [TL.tl_append, TL.tl_append, etl, semi1]
      rfl
    have npd : p ≠ d := d4.ne np5
    have k2 : ((": " : Str)).length = 2 := by decide +kernel
    have r6 : (("robot " : Str)).length = 6 := by decide +kernel
    have r2 : ((" {" : Str)).length = 2 := by decide +kernel
    -- both robots
    refine q_forR1 (n := 2) (ea_cons ev_c ea_nil) (by omega) (fun i σ' H' => ∃ (y7 y8 y9 y10 y11 y12 : Option V) (h0 h1 : List Bool), σ' = [some (.ref sc), some (.ref d), y2, some (.ref t), some (.str (planText Pl)), some (.ref nl), some (.ref p), y7, y8, y9, y10, y11, y12, y13, y14, y15, y16, none, none, none] ∧ ExN d H4 H' ∧ DAt d H' ∧ H' p = some (.lst ((llines Pl nm h0 h1 i).map fun c => V.str (mkS c))) ∧ (0 < i → Flags Pl.l0 h0) ∧ (1 < i → Flags Pl.l1 h1))
      (fun H6 e6 => ⟨y7, y8, y9, y10, y11, y12, [], [], rfl, ExN.of (e5.trans e6), d4.ex (e5.trans e6), e6 _ _ h5, fun z => absurd z (by decide), fun z => absurd z (by decide)⟩) ?_ ?_
    · rintro i σ' H6 hi ⟨y7, y8, y9, y10, y11, y12, h0, h1, rfl, e6, d6, h6, fl0, fl1⟩
      obtain ⟨n, l, sN, wN, gn, gs, gw, gA, hD, hn, hlen, hfin⟩ : ∃ (n : Nat) (l : List Lk) (sN : Addr) (wN : List V), [V.int Pl.a, V.int Pl.b][i]? = some (.int n) ∧ [V.ref s0, V.ref s1][i]? = some (.ref sN) ∧ (∀ H, PlnD H t sh st ls s0 s1 w0 w1 Pl → H sN = some (.lst wN)) ∧ (∀ H, PlnD H t sh st ls s0 s1 w0 w1 Pl → All (LkAt H) wN l) ∧ Drawn l ∧ n < 12 ∧ (llines Pl nm h0 h1 i).length ≤ 25 ∧
          ∀ hs, Flags l hs → ∃ h0' h1', llines Pl nm h0' h1' (i + 1) = llines Pl nm h0 h1 i ++ lrob nm n l hs ∧ (0 < i + 1 → Flags Pl.l0 h0') ∧ (1 < i + 1 → Flags Pl.l1 h1') := by
        have k0 := hP.k0.hi
        match i, hi with
        | 0, _ =>
          refine ⟨Pl.a, Pl.l0, s0, w0, rfl, rfl, fun H z => z.h0, fun H z => z.k0, hP.k0, by omega, by show 1 ≤ 25; decide, fun hs hf => ⟨hs, h1, ?_, fun _ => hf, fun z => absurd z (by decide)⟩⟩
          show hdC Pl :: (lrob nm Pl.a Pl.l0 hs ++ []) = [hdC Pl] ++ lrob nm Pl.a Pl.l0 hs
          rw [List.append_nil]
          rfl
        | 1, _ =>
          refine ⟨Pl.b, Pl.l1, s1, w1, rfl, rfl, fun H z => z.h1, fun H z => z.k1, hP.k1, by omega, ?_, fun hs hf => ⟨h0, hs, ?_, fun _ => fl0 (by decide), fun _ => hf⟩⟩
          · show (lrob nm Pl.a Pl.l0 h0 ++ []).length + 1 ≤ 25
            have := lsteps_len nm Pl.l0 0 h0
            unfold lrob
            simp only [List.length_append, List.length_cons, List.length_nil]
            omega
          · show hdC Pl :: (lrob nm Pl.a Pl.l0 h0 ++ lrob nm Pl.b Pl.l1 hs) = (hdC Pl :: (lrob nm Pl.a Pl.l0 h0 ++ [])) ++ lrob nm Pl.b Pl.l1 hs
            rw [List.append_nil]
            rfl
        | i + 2, hi => omega
      have l8 := hD.hi
      have hOl := hD.lk
      have hp6 := h4.exn e6 d4 hP
      have n2 : (numS n).length ≤ 2 := numS_len (by omega)
      refine q_appP (P := fun v _ => v = V.str (mkS (tl ("robot " : Str) ++ TL.numL n ++ [32, 123]))) h6 (ev_var rfl) (Ev.p (ev_is (ev_op (ev_op ev_c (ev_strI (n := n) (ev_op (ev_op (ev_var rfl) ev_c (rv_ixT (i := ((1 : Nat) : Int)) (st_of hp6.ht) (at_nat rfl))) (ev_var rfl) (rv_ixT (i := (i : Int)) (st_of hp6.hst) (at_nat gn))) (by omega)) (rv_addS (by omega))) ev_c (rv_addS (by rw [app_len]; omega))) (congrArg V.str (tl_inj ?_))) fun _ _ => rfl) (by rw [List.length_map]; omega) fun v H7 e7 hv7 => ?_
      · rw [TL.tl_append, TL.tl_append, brace_s, numS_tl]
        rfl
      subst hv7
      have E7 : ExN d H4 (upd H7 p (.lst ((llines Pl nm h0 h1 i).map (fun c => V.str (mkS c)) ++ [V.str (mkS (tl ("robot " : Str) ++ TL.numL n ++ [32, 123]))]))) := (e6.trans (ExN.of e7)).mut np5
      have D7 : DAt d (upd H7 p (.lst ((llines Pl nm h0 h1 i).map (fun c => V.str (mkS c)) ++ [V.str (mkS (tl ("robot " : Str) ++ TL.numL n ++ [32, 123]))]))) := (d6.ex e7).mut npd
      have hp7 := h4.exn E7 d4 hP
      refine q_asg (v := .ref sN) (ev_op (ev_op (ev_var rfl) ev_c (rv_ixT (i := ((2 : Nat) : Int)) (st_of hp7.ht) (at_nat rfl))) (ev_var rfl) (rv_ixL (i := (i : Int)) (sq_of hp7.hls) (at_nat gs))) fun H8 e8 => ?_
      have hp8 := hp7.ex e8
      have gw8 := gw _ hp8
      have gA8 := gA _ hp8
      have gl := gA8.len
      refine q_asgL (xs := (goalsOf l).map fun (m : Nat) => V.int m) (el_eq (el_lcP (xs := wN) (fun i => (l.getD i ("", none)).2.isSome) (fun i => lkV (l.getD i ("", none)).2) (ev_var rfl) (sq_of gw8) (by omega) rfl (fun _ _ => rfl) fun i x hx => ?_) (by rw [gl]; exact goals_given l)) fun ga H9 hga e9 h9 => ?_
      · obtain ⟨s, hs, b, rfl, hb⟩ := gA8.getV hx
        refine ⟨b, _, _, rfl, st_of hb, fun H2 e2 => ?_, fun H2 e2 _ => ?_⟩
        · refine et_test (ev_is (ev_op (ev_var rfl) ev_c rv_noN) ?_)
          rw [List.getD_eq_getElem?_getD, hs]
          show V.bl (!decide (lkV s.2 = V.non)) = V.bl s.2.isSome
          cases s.2 <;> rfl
        · refine ev_is (ev_var rfl) ?_
          rw [List.getD_eq_getElem?_getD, hs]
          rfl
      have e79 := e8.trans e9
      have E9 : ExN d H4 H9 := E7.trans (ExN.of e79)
      have D9 := D7.ex e79
      have gad : ga ≠ d := (D7.ex e8).ne hga
      have npg : p ≠ ga := ne_of_none (e8 _ _ upd_same) hga
      have h9p := e79 _ _ upd_same
      refine q_forR1 (n := ((wN.length : Nat) : Int)) (ea_cons (ev_len (ev_var rfl) (sq_of (e9 _ _ gw8))) ea_nil) (by omega)
        (fun k σ' H' => ∃ (y10 y11 y12 : Option V) (hs : List Bool), σ' = [some (.ref sc), some (.ref d), y2, some (.ref t), some (.str (planText Pl)), some (.ref nl), some (.ref p), some (.int (i : Int)), some (.ref sN), some (.ref ga), y10, y11, y12, y13, y14, y15, y16, none, none, none] ∧ ExN d H4 H' ∧ DAt d H' ∧ H' ga = some (.lst ((goalsOf l).map fun (m : Nat) => V.int m)) ∧ H' p = some (.lst (((llines Pl nm h0 h1 i).map (fun c => V.str (mkS c)) ++ [V.str (mkS (tl ("robot " : Str) ++ TL.numL n ++ [32, 123]))]) ++ (lsteps nm 0 (l.take k) hs).map fun c => V.str (mkS c))) ∧ hs.length = k ∧ ∀ j, j < k → some j ∈ l.map (·.2) → hs[j]? = some true)
        (fun H10 e10 => ⟨y10, y11, y12, [], rfl, E9.trans (ExN.of e10), D9.ex e10, e10 _ _ h9, by rw [List.take_zero]; exact (e10 _ _ h9p).trans (congrArg (fun z => some (HO.lst z)) (List.append_nil _).symm), rfl, fun j hj => absurd hj (Nat.not_lt_zero j)⟩) ?_ ?_
      · rintro k σ' H10 hk ⟨z10, z11, z12, hs, rfl, E10, D10, h10, h10p, hsl, hfl⟩
        have hkl : k < l.length := by omega
        have hsk : l[k]? = some l[k] := List.getElem?_eq_getElem hkl
        generalize l[k] = s at hsk
        have hmem := List.mem_of_getElem? hsk
        have hw5 := cmd_len (hOl.word s hmem)
        refine q_asgD (a := d) (P := fun v => ∃ b : Bool, v = .bl b ∧ (some k ∈ l.map (·.2) → b = true)) (fun Q q => ⟨_, rfl, _, rfl, rv_isL (sq_of h10) rfl (flat_nat _) _ (Ex.refl _) _ fun H11 e11 => ⟨decide (k ∈ goalsOf l), congrArg V.bl (inV_nat k (goalsOf l)), ?_⟩⟩) fun v H11 e11 D11 ⟨b, hv, hb⟩ => ?_
        · cases hc : decide (k ∈ goalsOf l) with
          | true => exact q _ H11 (ExN.of e11) (D10.ex e11) ⟨true, rfl, fun _ => rfl⟩
          | false => exact ⟨_, rfl, d, 3, rfl, D10.ex e11, by decide, by decide, fun r H12 hr e12 d12 => ⟨rfl, q _ H12 ((ExN.of e11).trans e12) d12 ⟨_, rfl, fun hm => absurd ((goals_mem l k).mpr hm) (of_decide_eq_false hc)⟩⟩⟩
        subst hv
        have E11 := E10.trans e11
        have hp11 := h4.exn E11 d4 hP
        have gw11 := gw _ hp11
        obtain ⟨v, hv, c, rfl, hc⟩ := (gA _ hp11).get hsk
        have nl11 := E11 _ _ nld h4n
        have nmg : ∀ m : Nat, m < 8 → (nm.map V.str)[m]? = some (.str (nm.getD m "")) := fun m hm => by
          rw [List.getElem?_map, List.getD_eq_getElem?_getD, List.getElem?_eq_getElem (by omega)]
          rfl
        have nms : ∀ m : Nat, (nm.getD m "").length ≤ 8 := fun m => by
          rw [← len_tl]
          exact nm_small pm m
        let tg : Str := match s.2 with
          | none => mkS []
          | some t => mkS (32 :: nmC nm t)
        have htg : tg.length ≤ 9 := by
          show (match s.2 with | none => mkS [] | some t => mkS (32 :: nmC nm t)).length ≤ 9
          cases s.2 with
          | none => exact Nat.zero_le _
          | some t =>
            have := nm_small pm t
            show (nmC nm t).length + 1 ≤ 9
            omega
        refine q_asg (v := .str tg) (ev_if (b := s.2.isSome) (et_test (ev_is (ev_op (ev_op (ev_op (ev_var rfl) (ev_var rfl) (rv_ixL (i := (k : Int)) (sq_of gw11) (at_nat hv))) ev_c (rv_ixT (i := ((1 : Nat) : Int)) (st_of hc) (at_nat rfl))) ev_c rv_noN) (congrArg V.bl (by cases s.2 <;> rfl)))) (fun hq => ?_) (fun hq => ?_)) fun H12 e12 => ?_
        · obtain ⟨m, em⟩ : ∃ m, s.2 = some m := by
            cases q : s.2 with
            | none => rw [q] at hq; cases hq
            | some m => exact ⟨m, rfl⟩
          have hm := hOl.tgt s hmem m em
          have hms := nms m
          refine ev_is (ev_op ev_c (ev_op (ev_var rfl) (ev_op (ev_op (ev_var rfl) (ev_var rfl) (rv_ixL (i := (k : Int)) (sq_of gw11) (at_nat hv))) ev_c (rv_ixT (i := ((1 : Nat) : Int)) (st_of hc) (at_nat (v := .int (m : Nat)) (by rw [em]; rfl)))) (rv_ixL (i := (m : Int)) (sq_of nl11) (at_nat (nmg m (by omega))))) (rv_addS (by omega))) (congrArg V.str (tl_inj ?_))
          rw [TL.tl_append, blank1]
          show [32] ++ nmC nm m = tl (match s.2 with | none => mkS [] | some t => mkS (32 :: nmC nm t))
          rw [em]
          rfl
        · refine ev_is ev_c (congrArg V.str ?_)
          show ("" : Str) = match s.2 with | none => mkS [] | some t => mkS (32 :: nmC nm t)
          cases q : s.2 with
          | none => exact empty0
          | some t => rw [q] at hq; cases hq
        let pf : Str := if b = true then mkS (nmC nm k ++ [58, 32]) else mkS []
        have hpf : pf.length ≤ 10 := by
          show (if b = true then mkS (nmC nm k ++ [58, 32]) else mkS []).length ≤ 10
          split
          · have := nm_small pm k
            show (nmC nm k ++ [58, 32]).length ≤ 10
            rw [List.length_append]
            show _ + 2 ≤ 10
            omega
          · exact Nat.zero_le _
        have h12p := e12 _ _ (e11 _ _ npd h10p)
        have hkn := nms k
        have gwx := e12 _ _ gw11
        have hcx := e12 _ _ hc
        have lln := lsteps_len nm (l.take k) 0 hs
        have ltk : (l.take k).length ≤ 8 := by
          rw [List.length_take]
          omega
        refine s_appP (P := fun v _ => v = V.str (mkS (lstep nm k s b))) h12p (ev_var rfl) (Ev.p (ev_is (ev_op (ev_op (ev_op (ev_if (v := .str pf) (b := b) (et_B (ev_var rfl)) (fun hb' => ?_) (fun hb' => ?_)) (ev_op (ev_op (ev_var rfl) (ev_var rfl) (rv_ixL (i := (k : Int)) (sq_of gwx) (at_nat hv))) ev_c (rv_ixT (i := ((0 : Nat) : Int)) (st_of hcx) (at_nat rfl))) (rv_addS (by omega))) (ev_var rfl) (rv_addS (by rw [app_len]; omega))) ev_c (rv_addS (by rw [app_len, app_len]; omega))) (congrArg V.str (tl_inj ?_))) fun _ _ => rfl) (by simp only [List.length_append, List.length_map, List.length_cons, List.length_nil]; omega) fun v H13 e13 hv13 => ?_
        · refine ev_is (ev_op (ev_op (ev_var rfl) (ev_var rfl) (rv_ixL (i := (k : Int)) (sq_of (e12 _ _ nl11)) (at_nat (nmg k (by omega))))) ev_c (rv_addS (by omega))) (congrArg V.str (tl_inj ?_))
          rw [TL.tl_append, colon2]
          show nmC nm k ++ [58, 32] = tl (if b = true then mkS (nmC nm k ++ [58, 32]) else mkS [])
          rw [if_pos hb']
          rfl
        · refine ev_is ev_c (congrArg V.str ?_)
          show ("" : Str) = if b = true then mkS (nmC nm k ++ [58, 32]) else mkS []
          rw [hb', if_neg (by decide), empty0]
        · rw [TL.tl_append, TL.tl_append, TL.tl_append]
          have t1 : tl pf = if b = true then nmC nm k ++ [58, 32] else [] := by
            show tl (if b = true then mkS (nmC nm k ++ [58, 32]) else mkS []) = _
            split <;> rfl
          have t2 : tl tg = match s.2 with | none => [] | some t => 32 :: nmC nm t := by
            show tl (match s.2 with | none => mkS [] | some t => mkS (32 :: nmC nm t)) = _
            cases s.2 <;> rfl
          rw [t1, t2, semi1]
          rfl
        · subst hv13
          have x3 : ExN d H10 H13 := e11.trans (ExN.of (e12.trans e13))
          refine ⟨_, _, _, hs ++ [b], rfl, (E10.trans x3).mut np5, (D11.ex (e12.trans e13)).mut npd, ?_, ?_, by rw [List.length_append, hsl]; rfl, fun j hj hm => ?_⟩
          · rw [upd_ne (Ne.symm npg)]
            exact x3 _ _ gad h10
          · rw [upd_same, lsteps_snoc nm l 0 k hs s b hsk hsl, List.map_append, List.append_assoc, Nat.zero_add]
            rfl
          · by_cases hjk : j < k
            · rw [List.getElem?_append_left (by omega)]
              exact hfl j hjk hm
            · obtain rfl : j = k := by omega
              rw [List.getElem?_append_right (by omega), hsl, Nat.sub_self]
              exact congrArg some (hb hm)
      · rintro σ' H10 ⟨z10, z11, z12, hs, rfl, E10, D10, h10, h10p, hsl, hfl⟩
        rw [List.take_of_length_le (by show l.length ≤ wN.length; omega)] at h10p
        have hsl' : hs.length = wN.length := hsl
        have lln := lsteps_len nm l 0 hs
        refine s_appP (P := fun v _ => v = V.str (mkS [125])) h10p (ev_var rfl) (Ev.p (ev_is ev_c (congrArg V.str close_s)) fun _ _ => rfl) (by simp only [List.length_append, List.length_map, List.length_cons, List.length_nil]; omega) fun v H11 e11 hv11 => ?_
        subst hv11
        obtain ⟨h0', h1', eL, f0, f1⟩ := hfin hs ⟨by omega, fun k hk => by
          obtain ⟨s, hs1, hs2⟩ := List.mem_map.mp hk
          have := hOl.tgt s hs1 k hs2
          exact hfl k (by show k < wN.length; omega) hk⟩
        refine ⟨_, _, _, _, _, _, h0', h1', rfl, (E10.trans (ExN.of e11)).mut np5, (D10.ex e11).mut npd, ?_, f0, f1⟩
        rw [upd_same, eL]
        unfold lrob
        simp only [List.map_append, List.map_cons, List.map_nil, List.append_assoc, List.cons_append, List.nil_append]
    · rintro σ' H6 ⟨y7, y8, y9, y10, y11, y12, h0, h1, rfl, e6, d6, h6, fl0, fl1⟩
      have F0 := fl0 (by decide)
      have F1 := fl1 (by decide)
      have h6' : H6 p = some (.lst (((llines Pl nm h0 h1 2).map mkS).map V.str)) := by
        rw [List.map_map]
        exact h6
      have bnd := sum_le (k := 60) ((llines Pl nm h0 h1 2).map mkS) fun y hy => by
        obtain ⟨c, hc, rfl⟩ := List.mem_map.mp hy
        exact llines_small hP pm c hc
      have pl := llines_len (nm := nm) (h0 := h0) (h1 := h1) hP
      have nlen : (("\n" : Str)).length = 1 := by decide +kernel
      have ejoin : Txt.join ("\n" : Str) ((llines Pl nm h0 h1 2).map mkS) = mkS (looseT Pl nm h0 h1) := by
        apply tl_inj
        rw [TL.join_eq, TL.tl_join, line_s, List.map_map]
        show TL.joinL [10] ((llines Pl nm h0 h1 2).map fun c => c) = _
        rw [List.map_id']
        rfl
      have lbig : (mkS (looseT Pl nm h0 h1)).length ≤ 2000 := by
        have := joinL_len (S := [10]) (k := 60) (llines Pl nm h0 h1 2) (llines_small hP pm)
        show (looseT Pl nm h0 h1).length ≤ 2000
        unfold looseT
        simp only [List.length_cons, List.length_nil] at this
        omega
      refine q_asg (ev_is (ev_joinL ev_c (ev_var rfl) h6' (by rw [List.length_map] at bnd ⊢; rw [nlen]; omega)) (congrArg V.str ejoin)) fun H7 e7 => ?_
      have elit : (";:{}" : Str).cps.toList = [59, 58, 123, 125] := by decide +kernel
      have esz : (";:{}" : Str).cps.size = 4 := by decide +kernel
      have h3l : ((" " : Str)).length + 1 + ((" " : Str)).length ≤ 3 := by omega
      refine ⟨_, rfl, fun i hi => ?_, fun o => ?_⟩
      · have := spaced_len " " " " h3l ((";:{}" : Str).cps.toList.take i) (mkS (looseT Pl nm h0 h1))
        have hle : ((";:{}" : Str).cps.toList.take i).length ≤ 4 := by
          rw [elit]
          exact Nat.le_trans (List.length_take_le' ..) (by decide)
        have hpow : 4 ^ ((";:{}" : Str).cps.toList.take i).length ≤ 256 := Nat.le_trans (Nat.pow_le_pow_right (by decide) hle) (by decide)
        have hmul := Nat.mul_le_mul (Nat.succ_le_succ lbig) hpow
        have h3 := Nat.mul_le_mul_left ((spaced " " " " (mkS (looseT Pl nm h0 h1)) ((";:{}" : Str).cps.toList.take i)).length + 1) h3l
        have := Nat.le_trans this hmul
        omega
      have hwords : Txt.words (spaced " " " " (mkS (looseT Pl nm h0 h1)) (";:{}" : Str).cps.toList) = (toks Pl nm h0 h1).map mkS := by
        rw [elit]
        exact M.words Pl nm h0 h1 hP pm F0 F1
      have tcount := toks_len (nm := nm) (h0 := h0) (h1 := h1) hP
      have tsmall : ∀ w ∈ (toks Pl nm h0 h1).map mkS, w.length ≤ 8 := fun w hw => by
        obtain ⟨c, hc, rfl⟩ := List.mem_map.mp hw
        exact toks_small hP pm c hc
      have gsmall : ∀ g ∈ gaps, g.length ≤ 2 := by decide +kernel
      refine q_asg ev_c fun H8 e8 => ?_
      have d8 := d6.ex (e7.trans e8)
      refine q_forNLn (xs := ((toks Pl nm h0 h1).map mkS).map V.str) (el_eq (el_words (K := K) (ev_var rfl) ?_) (congrArg (List.map V.str) hwords)) (fun pw i σ' H' => ∃ (y7 y8 y9 y10 y11 y12 y16 : Option V) (gs : List Str), σ' = [some (.ref sc), some (.ref d), y2, some (.ref t), some (.str (planText Pl)), some (.ref nl), some (.ref p), y7, y8, y9, y10, y11, y12, some (.str (spaced " " " " (mkS (looseT Pl nm h0 h1)) (";:{}" : Str).cps.toList)), o, some (.str (glue "" gs (((toks Pl nm h0 h1).map mkS).take i))), y16, none, none, none] ∧ ExN d H4 H' ∧ DAt d H' ∧ H' pw = some (.lst (((toks Pl nm h0 h1).map mkS).map V.str)) ∧ pw ≠ d ∧ gs.length = i ∧ ∀ g ∈ gs, g ∈ gaps)
        (fun pw H9 npw e9 h9 => ⟨y7, y8, y9, y10, y11, y12, y16, [], rfl, e6.trans (ExN.of ((e7.trans e8).trans e9)), d8.ex e9, h9, d8.ne npw, rfl, fun g hg => by cases hg⟩) (fun pw i σ' H' _ ⟨_, _, _, _, _, _, _, _, _, _, _, h, _⟩ => sq_of h) ?_ ?_
      · have := spaced_len " " " " h3l (";:{}" : Str).cps.toList (mkS (looseT Pl nm h0 h1))
        have hle : ((";:{}" : Str).cps.toList).length ≤ 4 := by
          rw [elit]
          decide
        have hpow : 4 ^ ((";:{}" : Str).cps.toList).length ≤ 256 := Nat.le_trans (Nat.pow_le_pow_right (by decide) hle) (by decide)
        have hmul := Nat.mul_le_mul (Nat.succ_le_succ lbig) hpow
        have := Nat.le_trans this hmul
        omega
      · rintro pw i x σ' H9 hx ⟨y7, y8, y9, y10, y11, y12, y16, gs, rfl, E9, D9, h9, npw, hgl, hgg⟩
        obtain ⟨w, hw, rfl⟩ : ∃ w, ((toks Pl nm h0 h1).map mkS)[i]? = some w ∧ V.str w = x := by
          rw [List.getElem?_map] at hx
          cases q : ((toks Pl nm h0 h1).map mkS)[i]? with
          | none => rw [q] at hx; cases hx
          | some w =>
            rw [q] at hx
            exact ⟨w, rfl, Option.some.inj hx⟩
        have hwl := tsmall w (List.mem_of_getElem? hw)
        have hi := (List.getElem?_eq_some_iff.mp hw).1
        rw [List.length_map] at hi
        have hgb := glue_len "" gs (((toks Pl nm h0 h1).map mkS).take i) (fun g hg => gsmall g (hgg g hg)) (fun w hw => tsmall w (List.mem_of_mem_take hw))
        have e0l : ("" : Str).length = 0 := by decide +kernel
        refine s_setH ⟨_, rfl, by show 4 ≤ sizeLine; omega, fun p4 n4 => ⟨_, rfl, d, 4, rfl, D9.put n4, by decide, by decide, fun r H10 hr e10 d10 => ?_⟩⟩
        have hr4 : r < gaps.length := hr
        have hg : (gaps.map V.str)[r]? = some (.str gaps[r]) := by
          rw [List.getElem?_map, List.getElem?_eq_getElem hr4]
          rfl
        have hgm : gaps[r] ∈ gaps := List.getElem_mem hr4
        generalize gaps[r] = g at hg hgm
        have hg2 := gsmall g hgm
        refine ⟨p4, _, r, _, rfl, rfl, sq_of (xs := gaps.map V.str) (e10 _ _ (D9.ne n4) upd_same), at_nat hg, _, _, rfl, rfl, by omega, _, rfl, _, _, rfl, rfl, by rw [app_len]; omega, ?_⟩
        refine ⟨y7, y8, y9, y10, y11, y12, some (.str w), gs ++ [g], ?_, (E9.new n4).trans e10, d10, e10 _ _ npw ((Ex.new n4) _ _ h9), npw, by rw [List.length_append, hgl]; rfl, fun z hz => ?_⟩
        · rw [glue_snoc "" gs _ i g w hgl hw]
          rfl
        · rcases List.mem_append.mp hz with hz | hz
          · exact hgg z hz
          · rw [List.mem_singleton.mp hz]
            exact hgm
      · rintro pw σ' H9 ⟨y7, y8, y9, y10, y11, y12, y16, gs, rfl, E9, D9, h9, npw, hgl, hgg⟩
        have eg : ((toks Pl nm h0 h1).map mkS).take (((toks Pl nm h0 h1).map mkS).map V.str).length = (toks Pl nm h0 h1).map mkS := List.take_of_length_le (by simp)
        rw [eg]
        have R := M.reads Pl nm h0 h1 gs hP pm F0 F1 (by rw [hgl, List.length_map, List.length_map]) hgg
        have C := M.canon Pl hP
        have two2 : ∀ (z : V) (i : Nat) (u : V), [z, z][i]? = some u → u = z := fun z i u hu => by
          match i, hu with
          | 0, hu => exact (Option.some.inj hu).symm
          | 1, hu => exact (Option.some.inj hu).symm
          | i + 2, hu => simp at hu
        refine ⟨_, rfl, _, Pl, rfl, C, hO, fun H10 e10 => ⟨_, rfl, _, Pl, rfl, R, hO, fun H11 e11 => ⟨two, fun p1 n1 => ⟨_, rfl, _, rfl, two, fun p2 n2 => ⟨_, _, rfl, .inr (.inr ⟨p1, p2, _, _, rfl, rfl, .inl ⟨(Ex.new n2) _ _ upd_same, upd_same⟩, rfl, by show 2 ≤ 1000; decide, fun i u v hu hv => .inl ⟨_, two2 _ i u hu, two2 _ i v hv⟩⟩), fun H12 e12 => ⟨true, rfl, ?_⟩⟩⟩⟩⟩⟩
        have x12 := (((e10.trans e11).trans (Ex.new (o := .lst [V.str (planText Pl), V.str (planText Pl)]) n1)).trans (Ex.new (o := .lst [V.str (planText Pl), V.str (planText Pl)]) n2)).trans e12
        have hp12 := (h4.exn E9 d4 hP).ex x12
        refine ⟨_, rfl, _, Pl, rfl, R, fun p3 H13 n3 e13 h13 => ?_⟩
        have hp13 := hp12.ex e13
        refine ⟨_, rfl, t, _, ((2 : Nat) : Int), _, rfl, rfl, st_of hp13.ht, at_nat rfl, ls, _, ((0 : Nat) : Int), _, rfl, rfl, sq_of hp13.hls, at_nat rfl, s0, w0, rfl, .inl (sq_of hp13.h0), ?_⟩
        refine ⟨_, rfl, t, _, ((2 : Nat) : Int), _, rfl, rfl, st_of hp13.ht, at_nat rfl, ls, _, ((1 : Nat) : Int), _, rfl, rfl, sq_of hp13.hls, at_nat rfl, s1, w1, rfl, .inl (sq_of hp13.h1), two, fun p4 n4 => ⟨_, _, rfl, ?_, fun H16 e16 => ⟨true, rfl, ?_⟩⟩⟩
        · have q0 := h4.k0.len
          have q1 := h4.k1.len
          refine .inr (.inr ⟨p3, p4, [.int Pl.l0.length, .int Pl.l1.length], [.int w0.length, .int w1.length], rfl, rfl, .inr ⟨(Ex.new n4) _ _ h13, upd_same⟩, rfl, by show 2 ≤ 1000; decide, fun i u v hu hv => ?_⟩)
          rw [q0, q1] at hv
          match i, hu, hv with
          | 0, hu, hv => exact .inr (.inl ⟨_, (Option.some.inj hu).symm, (Option.some.inj hv).symm⟩)
          | 1, hu, hv => exact .inr (.inl ⟨_, (Option.some.inj hu).symm, (Option.some.inj hv).symm⟩)
          | i + 2, hu, _ => simp at hu
        · exact ⟨_, _, _, _, _, _, _, _, _, _, _, _, _, _, _, rfl, (((D9.ex x12).ex e13).put n4).ex e16⟩

end SB

set_option maxHeartbeats 4000000
namespace SB
open PySem PySem.Spec PyProof.Rows L2
open TL (tl)
/-- the rows of a text -/
def rows : List Nat → List (List Nat)
  | [] => [[]]
  | c :: r => if c = 10 then [] :: rows r else match rows r with
    | [] => [[c]]
    | f :: t => (c :: f) :: t
theorem rows_cons : ∀ l : List Nat, ∃ f t, rows l = f :: t
  | [] => ⟨[], [], rfl⟩
  | c :: r => by
    obtain ⟨f, t, h⟩ := rows_cons r
    by_cases e : c = 10
    · exact ⟨[], rows r, by simp [rows, e]⟩
    · exact ⟨c :: f, t, by simp [rows, e, h]⟩
theorem rows_line (r : List Nat) : rows (10 :: r) = [] :: rows r := by simp [rows]
theorem rows_sign {c : Nat} {r f : List Nat} {t : List (List Nat)} (h : c ≠ 10) (hr : rows r = f :: t) : rows (c :: r) = (c :: f) :: t := by simp [rows, h, hr]
theorem rows_app {r f : List Nat} {t : List (List Nat)} (hr : rows r = f :: t) : ∀ w : List Nat, (∀ c ∈ w, c ≠ 10) → rows (w ++ r) = (w ++ f) :: t
  | [], _ => hr
  | c :: w, h => rows_sign (h c (List.mem_cons_self ..)) (rows_app hr w fun x hx => h x (List.mem_cons_of_mem _ hx))
theorem spl_rows : ∀ (l acc f : List Nat) (t : List (List Nat)), rows l = f :: t → TL.spl [10] 0 acc l = (acc ++ f) :: t
  | [], acc, f, t, h => by
    obtain ⟨rfl, rfl⟩ : ([] : List Nat) = f ∧ ([] : List (List Nat)) = t := by
      simp [rows] at h
      exact ⟨h.1.symm, h.2.symm⟩
    rw [TL.spl_nil, List.append_nil]
  | c :: r, acc, f, t, h => by
    obtain ⟨g, u, hg⟩ := rows_cons r
    by_cases e : c = 10
    · subst e
      rw [rows_line] at h
      obtain ⟨rfl, rfl⟩ := List.cons.inj h
      rw [TL.spl_hit (by rfl), List.append_nil]
      have := spl_rows r [] g u hg
      rw [List.nil_append] at this
      rw [hg, ← this]
      rfl
    · rw [rows_sign e hg] at h
      obtain ⟨rfl, rfl⟩ := List.cons.inj h
      have hp : TL.pre [10] (c :: r) = false := TL.pre_of_head [] r e
      rw [TL.spl_miss hp, spl_rows r (acc ++ [c]) g u hg, List.append_assoc]
      rfl
theorem split_rows (z : Str) : Txt.split z "\n" = (rows (tl z)).map mkS := by
  have e : tl ("\n" : Str) = [10] := line_s
  apply TL.map_tl_inj
  rw [TL.split_spl z "\n" (by rw [e]; decide) (TL.kind_ok (by decide +kernel)), e, List.map_map]
  obtain ⟨f, t, h⟩ := rows_cons (tl z)
  rw [spl_rows (tl z) [] f t h, List.nil_append, h]
  show f :: t = (f :: t).map fun c => c
  rw [List.map_id']
/-- how a text falls into words -/
inductive Lex : List Nat → List (List Nat) → Prop where
  | nil : Lex [] []
  | blank {l : List Nat} {ws : List (List Nat)} (h : Lex l ws) : Lex (32 :: l) ws
  | line {l : List Nat} {ws : List (List Nat)} (h : Lex l ws) : Lex (10 :: l) ws
  | tok {l w : List Nat} {ws : List (List Nat)} (hw : w ≠ []) (hc : ∀ c ∈ w, c ≠ 10 ∧ c ≠ 32) (hk : (kindOf w).isSome = true) (hl : longest (w ++ l) = w) (h : Lex l ws) : Lex (w ++ l) (w :: ws)
theorem tw_tw {p q : Nat → Bool} (h : ∀ c, p c = true → q c = true) : ∀ l : List Nat, (l.takeWhile q).takeWhile p = l.takeWhile p
  | [] => rfl
  | c :: r => by
    cases hq : q c with
    | true =>
      simp only [List.takeWhile, hq]
      cases hp : p c with
      | true => simp only [tw_tw h r]
      | false => rfl
    | false =>
      have hp : p c = false := by
        cases hp : p c with
        | true => rw [h c hp] at hq; cases hq
        | false => rfl
      simp [List.takeWhile, hq, hp]
theorem rows_head : ∀ (l f : List Nat) (t : List (List Nat)), rows l = f :: t → f = l.takeWhile (fun c => c != 10)
  | [], f, t, h => by
    simp [rows] at h
    rw [h.1]
    rfl
  | c :: r, f, t, h => by
    obtain ⟨g, u, hg⟩ := rows_cons r
    by_cases e : c = 10
    · subst e
      rw [rows_line] at h
      obtain ⟨rfl, _⟩ := List.cons.inj h
      rfl
    · rw [rows_sign e hg] at h
      obtain ⟨rfl, _⟩ := List.cons.inj h
      have hb : (c != 10) = true := by simp [e]
      rw [rows_head r g u hg]
      simp [List.takeWhile, hb]
theorem longest_row {l : List Nat} : longest (l.takeWhile (fun c => c != 10)) = (if l.head? = some 10 then [] else longest l) := by
  have pL : ∀ c, isL c = true → (c != 10) = true := fun c h => by
    unfold isL at h
    simp at h ⊢
    omega
  have pD : ∀ c, isD c = true → (c != 10) = true := fun c h => by
    unfold isD at h
    simp at h ⊢
    omega
  cases l with
  | nil => rfl
  | cons c r =>
    by_cases e : c = 10
    · subst e
      rfl
    · have hb : (c != 10) = true := by simp [e]
      have hn : ¬ ((c :: r).head? = some 10) := by
        intro z
        exact e (Option.some.inj z)
      rw [if_neg hn]
      unfold longest
      rw [tw_tw pL, tw_tw pD]
      have : ((c :: r).takeWhile (fun c => c != 10)).take 1 = (c :: r).take 1 := by simp [List.takeWhile, hb]
      rw [this]
/-- kind and text -/
def kt (t : Tk) : Str × List Nat := (t.kind, tl t.text)
def kw (w : List Nat) : Str × List Nat := ((kindOf w).getD "", w)
theorem rows_read {g : List Nat} {u : List (List Nat)} {line : Nat} {ts0 ts1 : List Tk} (h0 : readRow g.length g line 0 = .ok ts0) (h1 : readRows (u.map mkS) (line + 1) = .ok ts1) : readRows ((g :: u).map mkS) line = .ok (ts0 ++ ts1) := by
  rw [List.map_cons]
  unfold readRows
  rw [mkS_len, tl_mkS, h0]
  show withFront ts0 (readRows (u.map mkS) (line + 1)) = _
  rw [h1]
  rfl
theorem lex_row : ∀ {l : List Nat} {ws : List (List Nat)}, Lex l ws → ∀ (f : List Nat) (t : List (List Nat)), rows l = f :: t → ∀ line col, ∃ ts0 ts1, (∀ n, f.length ≤ n → readRow n f line col = .ok ts0) ∧ readRows (t.map mkS) (line + 1) = .ok ts1 ∧ (ts0 ++ ts1).map kt = ws.map kw
  | _, _, .nil, f, t, h, line, col => by
    simp [rows] at h
    obtain ⟨rfl, rfl⟩ := h
    exact ⟨[], [], fun n _ => readRow_nil n line col, rfl, rfl⟩
  | _, _, .blank (l := l) h, f, t, hr, line, col => by
    obtain ⟨g, u, hg⟩ := rows_cons l
    rw [rows_sign (by decide) hg] at hr
    obtain ⟨rfl, rfl⟩ := List.cons.inj hr
    obtain ⟨ts0, ts1, h0, h1, h2⟩ := lex_row h g u hg line (col + 1)
    refine ⟨ts0, ts1, fun n hn => ?_, h1, h2⟩
    cases n with
    | zero => simp at hn
    | succ n =>
      rw [readRow_blank]
      exact h0 n (by simpa using hn)
  | _, _, .line (l := l) h, f, t, hr, line, col => by
    obtain ⟨g, u, hg⟩ := rows_cons l
    rw [rows_line, hg] at hr
    obtain ⟨rfl, rfl⟩ := List.cons.inj hr
    obtain ⟨ts0, ts1, h0, h1, h2⟩ := lex_row h g u hg (line + 1) 0
    refine ⟨[], ts0 ++ ts1, fun n _ => readRow_nil n line col, ?_, h2⟩
    exact rows_read (h0 g.length (Nat.le_refl _)) h1
  | _, _, .tok (l := l) (w := w) (ws := ws) hw hc hk hl h, f, t, hr, line, col => by
    obtain ⟨g, u, hg⟩ := rows_cons l
    have hx := rows_app hg w fun c hcw => (hc c hcw).1
    rw [hx] at hr
    obtain ⟨rfl, rfl⟩ := List.cons.inj hr
    obtain ⟨ts0, ts1, h0, h1, h2⟩ := lex_row h g u hg line (col + w.length)
    have eg : w ++ g = (w ++ l).takeWhile (fun c => c != 10) := rows_head _ _ _ hx
    have hlg : longest (w ++ g) = w := by
      rw [eg, longest_row, hl]
      cases w with
      | nil => exact absurd rfl hw
      | cons c r =>
        have : ¬ ((c :: r ++ l).head? = some 10) := fun z => (hc c (List.mem_cons_self ..)).1 (Option.some.inj z)
        rw [if_neg this]
    cases w with
    | nil => exact absurd rfl hw
    | cons c r =>
      obtain ⟨k, hk'⟩ := Option.isSome_iff_exists.mp hk
      refine ⟨⟨k, mkS (c :: r), line, col⟩ :: ts0, ts1, fun n hn => ?_, h1, ?_⟩
      · cases n with
        | zero => simp at hn
        | succ n =>
          have := readRow_tok (n := n) (c := c) (r := r ++ g) (line := line) (col := col) (k := k) (hc c (List.mem_cons_self ..)).2 (by rw [← List.cons_append, hlg]; exact hk')
          rw [← List.cons_append, hlg, List.drop_left, h0 n (by simp at hn; omega)] at this
          exact this
      · show kt ⟨k, mkS (c :: r), line, col⟩ :: (ts0 ++ ts1).map kt = kw (c :: r) :: ws.map kw
        rw [h2]
        show (k, (c :: r)) :: _ = ((kindOf (c :: r)).getD "", (c :: r)) :: _
        rw [hk']
        rfl
/-- a text that falls into words is lexed -/
theorem lex_all {z : Str} {ws : List (List Nat)} (h : Lex (tl z) ws) : ∃ ts n, lexAll z = .ok (ts ++ [endTk n]) ∧ ts.map kt = ws.map kw := by
  obtain ⟨f, t, hr⟩ := rows_cons (tl z)
  obtain ⟨ts0, ts1, h0, h1, h2⟩ := lex_row h f t hr 0 0
  refine ⟨ts0 ++ ts1, (Txt.split z "\n").length, ?_, h2⟩
  have e : readRows (Txt.split z "\n") 0 = .ok (ts0 ++ ts1) := by
    rw [split_rows, hr]
    exact rows_read (h0 f.length (Nat.le_refl _)) h1
  unfold lexAll
  rw [e]
end SB

set_option maxHeartbeats 4000000
namespace SB
open PySem PySem.Spec PyProof.Rows L2
open TL (tl)
/-- names of steps -/
structure Nm (nm : List Str) : Prop where
  len : nm.length = 8
  inj : ∀ i j, i < 8 → j < 8 → nmC nm i = nmC nm j → i = j
  kind : ∀ i, i < 8 → kw (nmC nm i) = (("name" : Str), nmC nm i)
theorem kt_drop {ts : List Tk} {i : Nat} {k : Str} {x : List Nat} {r : List (Str × List Nat)} (h : (ts.drop i).map kt = (k, x) :: r) : ∃ t, ts[i]? = some t ∧ t.kind = k ∧ tl t.text = x ∧ (ts.drop (i + 1)).map kt = r := by
  cases q : ts[i]? with
  | none =>
    rw [List.drop_eq_nil_of_le (List.getElem?_eq_none_iff.mp q)] at h
    cases h
  | some t =>
    obtain ⟨hi, e⟩ := List.getElem?_eq_some_iff.mp q
    rw [List.drop_eq_getElem_cons hi, e, List.map_cons] at h
    obtain ⟨h1, h2⟩ := List.cons.inj h
    have a := congrArg Prod.fst h1
    have b := congrArg Prod.snd h1
    exact ⟨t, rfl, a, b, h2⟩
theorem takeK_has {ks : List Str} {ts : List Tk} {i : Nat} {k : Str} {x : List Nat} {r : List (Str × List Nat)} (h : (ts.drop i).map kt = (k, x) :: r) (hk : k ∈ ks) : ∃ t, takeK ks ts i = .ok (t, i + 1) ∧ t.kind = k ∧ tl t.text = x ∧ (ts.drop (i + 1)).map kt = r := by
  obtain ⟨t, h1, h2, h3, h4⟩ := kt_drop h
  refine ⟨t, ?_, h2, h3, h4⟩
  unfold takeK
  rw [h1]
  dsimp only
  rw [if_pos (decide_eq_true (h2 ▸ hk))]
theorem kindAt_has {ts : List Tk} {i : Nat} {k : Str} {x : List Nat} {r : List (Str × List Nat)} (h : (ts.drop i).map kt = (k, x) :: r) : kindAt ts i = k := by
  obtain ⟨t, h1, h2, h3, h4⟩ := kt_drop h
  unfold kindAt
  rw [h1]
  exact h2
theorem at_ok {α β : Type} {r : PR α} {f : α → Nat → PR β} {a : α} {i : Nat} (h : r = .ok (a, i)) : andThen r f = f a i := by
  rw [h]
  rfl
/-- a step that was read for s -/
structure SOk (nm : List Str) (n : Nat) (s : Lk) (b : Bool) (st : StepM) : Prop where
  lab : (st.label.map fun t => tl t.text) = if b then some (nmC nm n) else none
  cmd : st.command.text = s.1
  tgt : (st.target.map fun t => tl t.text) = s.2.map (nmC nm)
theorem kw_cmd {w : Str} (h : w ∈ commands) : kw (tl w) = (w, tl w) := by
  have : ∀ w ∈ commands, kw (tl w) = (w, tl w) := by decide +kernel
  exact this w h
theorem kw_colon : kw [58] = ((":" : Str), [58]) := by decide +kernel
theorem kw_semi : kw [59] = ((";" : Str), [59]) := by decide +kernel
theorem kw_open : kw [123] = (("{" : Str), [123]) := by decide +kernel
theorem kw_close : kw [125] = (("}" : Str), [125]) := by decide +kernel
theorem kw_robot : kw (tl ("robot" : Str)) = (("robot" : Str), tl ("robot" : Str)) := by decide +kernel
theorem kw_shelf : kw (tl ("shelf" : Str)) = (("shelf" : Str), tl ("shelf" : Str)) := by decide +kernel
theorem kw_num {n : Nat} (h : n < 12) : kw (TL.numL n) = (("number" : Str), TL.numL n) := by
  have : ∀ n < 12, kw (TL.numL n) = (("number" : Str), TL.numL n) := by decide +kernel
  exact this n h
theorem takeLabel_has {nm : List Str} (hn : Nm nm) {ts : List Tk} {i n : Nat} {s : Lk} {b : Bool} {r : List (Str × List Nat)} (h8 : n < 8) (hc : s.1 ∈ commands) (h : (ts.drop i).map kt = (if b then [nmC nm n, [58]] else []).map kw ++ ((s.1, tl s.1) :: r)) :
    ∃ o j, takeLabel ts i = .ok (o, j) ∧ (o.map fun t => tl t.text) = (if b then some (nmC nm n) else none) ∧ (ts.drop j).map kt = (s.1, tl s.1) :: r := by
  cases b with
  | true =>
    have h' : (ts.drop i).map kt = (("name" : Str), nmC nm n) :: ((":" : Str), [58]) :: (s.1, tl s.1) :: r := by
      rw [h]
      show kw (nmC nm n) :: kw [58] :: _ = _
      rw [hn.kind n h8, kw_colon]
      rfl
    obtain ⟨t, h1, h2, h3, h4⟩ := takeK_has (ks := ["name"]) h' (List.mem_singleton.mpr rfl)
    obtain ⟨t2, h5, h6, h7, h9⟩ := takeK_has (ks := [":"]) h4 (List.mem_singleton.mpr rfl)
    refine ⟨some t, i + 1 + 1, ?_, ?_, h9⟩
    · unfold takeLabel
      rw [if_pos (kindAt_has h'), at_ok h1, at_ok h5]
    · show some (tl t.text) = some (nmC nm n)
      rw [h3]
  | false =>
    have h' : (ts.drop i).map kt = (s.1, tl s.1) :: r := h
    refine ⟨none, i, ?_, rfl, h'⟩
    unfold takeLabel
    rw [if_neg]
    rw [kindAt_has h']
    have : ∀ w ∈ commands, ¬ (w = ("name" : Str)) := by decide +kernel
    exact this _ hc
theorem takeStep_has {nm : List Str} (hn : Nm nm) {ts : List Tk} {i n : Nat} {s : Lk} {b : Bool} {r : List (Str × List Nat)} (h8 : n < 8) (hc : s.1 ∈ commands) (ht : ∀ t, s.2 = some t → t < 8) (hw : s.2.isSome = decide (s.1 ∈ jumps)) (h : (ts.drop i).map kt = (ltok nm n s b).map kw ++ r) :
    ∃ st j, takeStep ts i = .ok (st, j) ∧ SOk nm n s b st ∧ (ts.drop j).map kt = r := by
  have h' : (ts.drop i).map kt = (if b then [nmC nm n, [58]] else []).map kw ++ ((s.1, tl s.1) :: ((match s.2 with | none => [] | some t => [nmC nm t]).map kw ++ (((";" : Str), [59]) :: r))) := by
    rw [h]
    unfold ltok
    simp only [List.map_append, List.map_cons, List.map_nil, List.append_assoc, List.cons_append, List.nil_append, kw_cmd hc, kw_semi]
    all_goals rfl
  obtain ⟨o, j, e1, e2, e3⟩ := takeLabel_has hn h8 hc h'
  obtain ⟨c, e4, e5, e6, e7⟩ := takeK_has (ks := commands) e3 hc
  have ec : c.text = s.1 := tl_inj e6
  have tgt : ∃ tg m, takeTarget c ts (j + 1) = .ok (tg, m) ∧ (tg.map fun t => tl t.text) = s.2.map (nmC nm) ∧ (ts.drop m).map kt = ((";" : Str), [59]) :: r := by
    unfold takeTarget
    rw [e5, ← hw]
    cases q : s.2 with
    | none =>
      rw [q] at e7
      exact ⟨none, j + 1, rfl, rfl, e7⟩
    | some t =>
      rw [q] at e7
      have e7' : (ts.drop (j + 1)).map kt = (("name" : Str), nmC nm t) :: ((";" : Str), [59]) :: r := by
        rw [e7]
        show kw (nmC nm t) :: _ = _
        rw [hn.kind t (ht t q)]
        rfl
      obtain ⟨u, u1, u2, u3, u4⟩ := takeK_has (ks := ["name"]) e7' (List.mem_singleton.mpr rfl)
      refine ⟨some u, j + 1 + 1, ?_, ?_, u4⟩
      · show (if true = true then _ else _) = _
        rw [if_pos rfl, at_ok u1]
      · show some (tl u.text) = some (nmC nm t)
        rw [u3]
  obtain ⟨tg, m, g1, g2, g3⟩ := tgt
  obtain ⟨z, z1, z2, z3, z4⟩ := takeK_has (ks := [";"]) g3 (List.mem_singleton.mpr rfl)
  refine ⟨⟨o, c, tg⟩, m + 1, ?_, ⟨e2, ec, g2⟩, z4⟩
  unfold takeStep
  rw [at_ok e1, at_ok e4, at_ok g1, at_ok z1]
/-- steps that were read -/
def SR (nm : List Str) : Nat → List Lk → List Bool → List StepM → Prop
  | n, s :: l, b :: hs, st :: ss => SOk nm n s b st ∧ SR nm (n + 1) l hs ss
  | _, [], [], [] => True
  | _, _, _, _ => False
theorem takeSteps_has {nm : List Str} (hn : Nm nm) {ts : List Tk} {r : List (Str × List Nat)} : ∀ (l : List Lk) (hs : List Bool) (n i fuel : Nat), hs.length = l.length → n + l.length ≤ 8 → (∀ s ∈ l, s.1 ∈ commands) → (∀ s ∈ l, ∀ t, s.2 = some t → t < 8) → (∀ s ∈ l, s.2.isSome = decide (s.1 ∈ jumps)) → l.length < fuel →
    (ts.drop i).map kt = (ltoks nm n l hs).map kw ++ ((("}" : Str), [125]) :: r) → ∃ ss j, takeSteps fuel ts i = .ok (ss, j) ∧ SR nm n l hs ss ∧ (ts.drop j).map kt = (("}" : Str), [125]) :: r
  | [], [], n, i, fuel + 1, _, _, _, _, _, _, h => by
    have h' : (ts.drop i).map kt = (("}" : Str), [125]) :: r := h
    refine ⟨[], i, ?_, trivial, h'⟩
    unfold takeSteps
    rw [if_pos (kindAt_has h')]
  | [], _ :: _, _, _, _, hl, _, _, _, _, _, _ => by cases hl
  | _ :: _, [], _, _, _, hl, _, _, _, _, _, _ => by cases hl
  | _, _, _, _, 0, _, _, _, _, _, hf, _ => absurd hf (Nat.not_lt_zero _)
  | s :: l, b :: hs, n, i, fuel + 1, hl, h8, hc, ht, hw, hf, h => by
    simp only [List.length_cons] at h8 hf hl
    have hcs := hc s (List.mem_cons_self ..)
    have h' : (ts.drop i).map kt = (ltok nm n s b).map kw ++ ((ltoks nm (n + 1) l hs).map kw ++ ((("}" : Str), [125]) :: r)) := by
      rw [h]
      show ((ltok nm n s b) ++ ltoks nm (n + 1) l hs).map kw ++ _ = _
      rw [List.map_append, List.append_assoc]
    obtain ⟨st, j, e1, e2, e3⟩ := takeStep_has hn (by omega) hcs (ht s (List.mem_cons_self ..)) (hw s (List.mem_cons_self ..)) h'
    obtain ⟨ss, m, f1, f2, f3⟩ := takeSteps_has hn l hs (n + 1) j fuel (by omega) (by omega) (fun x hx => hc x (List.mem_cons_of_mem _ hx)) (fun x hx => ht x (List.mem_cons_of_mem _ hx)) (fun x hx => hw x (List.mem_cons_of_mem _ hx)) (by omega) e3
    refine ⟨st :: ss, m, ?_, ⟨e2, f2⟩, f3⟩
    unfold takeSteps
    rw [if_neg, at_ok e1, at_ok f1]
    have nk : ∀ k x rr, (ts.drop i).map kt = (k, x) :: rr → k ≠ "}" → ¬ (kindAt ts i = "}") := fun k x rr hh hk => by
      rw [kindAt_has hh]
      exact hk
    cases b with
    | true =>
      refine nk "name" (nmC nm n) ?_ ?_ (by decide +kernel)
      · exact ((":" : Str), [58]) :: ((kw (tl s.1)) :: ((match s.2 with | none => [] | some t => [nmC nm t]).map kw ++ (((";" : Str), [59]) :: ((ltoks nm (n + 1) l hs).map kw ++ ((("}" : Str), [125]) :: r)))))
      · rw [h']
        unfold ltok
        simp only [List.map_append, List.map_cons, List.map_nil, List.append_assoc, List.cons_append, List.nil_append, kw_semi, if_true, hn.kind n (by omega), kw_colon]
        all_goals rfl
    | false =>
      have nb : ∀ w ∈ commands, w ≠ ("}" : Str) := by decide +kernel
      refine nk s.1 (tl s.1) ?_ ?_ (nb _ hcs)
      · exact ((match s.2 with | none => [] | some t => [nmC nm t]).map kw ++ (((";" : Str), [59]) :: ((ltoks nm (n + 1) l hs).map kw ++ ((("}" : Str), [125]) :: r))))
      · rw [h']
        unfold ltok
        simp only [List.map_append, List.map_cons, List.map_nil, List.append_assoc, List.cons_append, List.nil_append, kw_semi, kw_cmd hcs, Bool.false_eq_true, if_false]
        all_goals rfl
theorem takeRobot_has {nm : List Str} (hn : Nm nm) {ts : List Tk} {r : List (Str × List Nat)} {a i : Nat} {l : List Lk} {hs : List Bool} (ha : a < 12) (hD : Drawn l) (hl : hs.length = l.length) (hts : 8 ≤ ts.length)
    (h : (ts.drop i).map kt = (robToks nm a l hs).map kw ++ r) : ∃ rb j, takeRobot ts i = .ok (rb, j) ∧ rb.start.text = numS a ∧ SR nm 0 l hs rb.steps ∧ (ts.drop j).map kt = r := by
  have h' : (ts.drop i).map kt = (("robot" : Str), tl ("robot" : Str)) :: (("number" : Str), TL.numL a) :: (("{" : Str), [123]) :: ((ltoks nm 0 l hs).map kw ++ ((("}" : Str), [125]) :: r)) := by
    rw [h]
    unfold robToks
    simp only [List.map_append, List.map_cons, List.map_nil, List.append_assoc, List.cons_append, List.nil_append, kw_robot, kw_num ha, kw_open, kw_close]
  have h8 := hD.hi
  obtain ⟨t1, a1, a2, a3, a4⟩ := takeK_has (ks := ["robot"]) h' (List.mem_singleton.mpr rfl)
  obtain ⟨t2, b1, b2, b3, b4⟩ := takeK_has (ks := ["number"]) a4 (List.mem_singleton.mpr rfl)
  obtain ⟨t3, c1, c2, c3, c4⟩ := takeK_has (ks := ["{"]) b4 (List.mem_singleton.mpr rfl)
  have ht : ∀ s ∈ l, ∀ t, s.2 = some t → t < 8 := fun s hs t e => Nat.lt_of_lt_of_le (hD.tgt s hs t e) h8
  cases l with
  | nil => exact absurd hD.lo (by decide)
  | cons s l =>
    cases hs with
    | nil => cases hl
    | cons b hs =>
      simp only [List.length_cons] at h8 hl
      have hcs := hD.cmd s (List.mem_cons_self ..)
      have c4' : (ts.drop (i + 1 + 1 + 1)).map kt = (ltok nm 0 s b).map kw ++ ((ltoks nm 1 l hs).map kw ++ ((("}" : Str), [125]) :: r)) := by
        rw [c4]
        show ((ltok nm 0 s b) ++ ltoks nm 1 l hs).map kw ++ _ = _
        rw [List.map_append, List.append_assoc]
      obtain ⟨st, j, e1, e2, e3⟩ := takeStep_has hn (by decide) hcs (ht s (List.mem_cons_self ..)) (hD.way s (List.mem_cons_self ..)) c4'
      obtain ⟨ss, m, f1, f2, f3⟩ := takeSteps_has hn l hs 1 j (ts.length + 1) (by omega) (by omega) (fun x hx => hD.cmd x (List.mem_cons_of_mem _ hx)) (fun x hx => ht x (List.mem_cons_of_mem _ hx)) (fun x hx => hD.way x (List.mem_cons_of_mem _ hx)) (by omega) e3
      obtain ⟨t4, d1, d2, d3, d4⟩ := takeK_has (ks := ["}"]) f3 (List.mem_singleton.mpr rfl)
      refine ⟨⟨t2, st :: ss⟩, m + 1, ?_, tl_inj (b3.trans (numS_tl a).symm), ⟨e2, f2⟩, d4⟩
      unfold takeRobot
      rw [at_ok a1, at_ok b1, at_ok c1, at_ok e1, at_ok f1, at_ok d1]
theorem takeNums_has {ts : List Tk} {r : List (Str × List Nat)} : ∀ (ns : List Nat) (i fuel : Nat), (∀ n ∈ ns, n < 12) → ns.length < fuel → (ts.drop i).map kt = (ns.map TL.numL).map kw ++ (((";" : Str), [59]) :: r) →
    ∃ tt j, takeNums fuel ts i = .ok (tt, j) ∧ tt.map (·.text) = ns.map numS ∧ (ts.drop j).map kt = ((";" : Str), [59]) :: r
  | _, _, 0, _, hf, _ => absurd hf (Nat.not_lt_zero _)
  | [], i, fuel + 1, _, _, h => by
    have h' : (ts.drop i).map kt = ((";" : Str), [59]) :: r := h
    refine ⟨[], i, ?_, rfl, h'⟩
    unfold takeNums
    rw [if_neg]
    rw [kindAt_has h']
    decide +kernel
  | n :: ns, i, fuel + 1, hn, hf, h => by
    have h' : (ts.drop i).map kt = (("number" : Str), TL.numL n) :: ((ns.map TL.numL).map kw ++ (((";" : Str), [59]) :: r)) := by
      rw [h]
      show kw (TL.numL n) :: _ = _
      rw [kw_num (hn n (List.mem_cons_self ..))]
      rfl
    obtain ⟨t, e1, e2, e3, e4⟩ := takeK_has (ks := ["number"]) h' (List.mem_singleton.mpr rfl)
    simp only [List.length_cons] at hf
    obtain ⟨tt, j, f1, f2, f3⟩ := takeNums_has ns (i + 1) fuel (fun x hx => hn x (List.mem_cons_of_mem _ hx)) (by omega) e4
    refine ⟨t :: tt, j, ?_, ?_, f3⟩
    · unfold takeNums
      rw [if_pos (kindAt_has h'), at_ok e1, at_ok f1]
    · show t.text :: tt.map (·.text) = numS n :: ns.map numS
      rw [f2, tl_inj (e3.trans (numS_tl n).symm)]
/-- the whole plan is parsed -/
theorem takePlan_has {nm : List Str} (hn : Nm nm) {P : Plm} (hP : DrawnP P) {h0 h1 : List Bool} (hl0 : h0.length = P.l0.length) (hl1 : h1.length = P.l1.length) {ts : List Tk} {n : Nat} (h : ts.map kt = (toks P nm h0 h1).map kw) :
    ∃ p j r0 r1, takePlan (ts ++ [endTk n]) 0 = .ok (p, j) ∧ p.numbers.map (·.text) = P.bx.map numS ∧ p.robots = [r0, r1] ∧ r0.start.text = numS P.a ∧ r1.start.text = numS P.b ∧ SR nm 0 P.l0 h0 r0.steps ∧ SR nm 0 P.l1 h1 r1.steps := by
  have hi := hP.hi
  have lo := hP.lo
  have la := hP.la
  have lb := hP.lb
  obtain ⟨b0, bs, hbx⟩ : ∃ b0 bs, P.bx = b0 :: bs := by
    cases q : P.bx with
    | nil => rw [q] at lo; exact absurd lo (by decide)
    | cons a b => exact ⟨a, b, rfl⟩
  have hlen : (ts ++ [endTk n]).length ≥ 8 := by
    have := congrArg List.length h
    rw [List.length_map, List.length_map] at this
    rw [List.length_append, this]
    unfold toks robToks
    simp only [List.length_append, List.length_cons, List.length_nil, List.length_map]
    omega
  have hlen2 : bs.length < (ts ++ [endTk n]).length + 1 := by
    rw [hbx, List.length_cons] at hi
    omega
  have hmost : ∀ m ∈ P.bx, m < 12 := fun m hm => by
    have := hP.most m hm
    omega
  have h' : ((ts ++ [endTk n]).drop 0).map kt = (("shelf" : Str), tl ("shelf" : Str)) :: (("number" : Str), TL.numL b0) :: ((bs.map TL.numL).map kw ++ (((";" : Str), [59]) :: ((robToks nm P.a P.l0 h0).map kw ++ ((robToks nm P.b P.l1 h1).map kw ++ [(("end" : Str), [])])))) := by
    rw [List.drop_zero, List.map_append, h]
    unfold toks
    rw [hbx]
    simp only [List.map_append, List.map_cons, List.map_nil, List.append_assoc, List.cons_append, List.nil_append, kw_shelf, kw_num (hmost b0 (hbx ▸ List.mem_cons_self ..)), kw_semi]
    rfl
  obtain ⟨t1, a1, a2, a3, a4⟩ := takeK_has (ks := ["shelf"]) h' (List.mem_singleton.mpr rfl)
  obtain ⟨t2, b1, b2, b3, b4⟩ := takeK_has (ks := ["number"]) a4 (List.mem_singleton.mpr rfl)
  obtain ⟨tt, j, c1, c2, c3⟩ := takeNums_has bs (0 + 1 + 1) ((ts ++ [endTk n]).length + 1) (fun m hm => hmost m (hbx ▸ List.mem_cons_of_mem _ hm)) hlen2 b4
  obtain ⟨t3, d1, d2, d3, d4⟩ := takeK_has (ks := [";"]) c3 (List.mem_singleton.mpr rfl)
  obtain ⟨r0, m0, e1, e2, e3, e4⟩ := takeRobot_has hn (by omega) hP.k0 hl0 hlen d4
  obtain ⟨r1, m1, f1, f2, f3, f4⟩ := takeRobot_has hn (by omega) hP.k1 hl1 hlen e4
  obtain ⟨t4, g1, g2, g3, g4⟩ := takeK_has (ks := ["end"]) f4 (List.mem_singleton.mpr rfl)
  refine ⟨⟨t1, t2 :: tt, [r0, r1]⟩, m1 + 1, r0, r1, ?_, ?_, rfl, e2, f2, e3, f3⟩
  · unfold takePlan
    rw [at_ok a1, at_ok b1, at_ok c1, at_ok d1, at_ok e1, at_ok f1, at_ok g1]
  · show t2.text :: tt.map (·.text) = _
    rw [hbx, c2, tl_inj (b3.trans (numS_tl b0).symm)]
    rfl
end SB

set_option maxHeartbeats 4000000
namespace SB
open PySem PySem.Spec PyProof.Rows L2
open TL (tl)
theorem SOk.label {nm : List Str} {n : Nat} {s : Lk} {b : Bool} {st : StepM} (h : SOk nm n s b st) : (st.label.map fun t => t.text) = if b then some (mkS (nmC nm n)) else none := by
  have e := h.lab
  cases q : st.label with
  | none =>
    rw [q] at e
    cases b with
    | true => cases e
    | false => rfl
  | some t =>
    rw [q] at e
    cases b with
    | true =>
      have e2 : tl t.text = nmC nm n := Option.some.inj e
      show some t.text = some (mkS (nmC nm n))
      rw [← e2, mkS_tl]
    | false => cases e
theorem SR_get {nm : List Str} : ∀ (l : List Lk) (hs : List Bool) (ss : List StepM) (n i : Nat) (st : StepM), SR nm n l hs ss → ss[i]? = some st → ∃ s b, l[i]? = some s ∧ hs[i]? = some b ∧ SOk nm (n + i) s b st
  | s :: l, b :: hs, st' :: ss, n, 0, st, h, hg => by
    obtain rfl : st' = st := Option.some.inj hg
    exact ⟨s, b, rfl, rfl, h.1⟩
  | s :: l, b :: hs, st' :: ss, n, i + 1, st, h, hg => by
    obtain ⟨s', b', h1, h2, h3⟩ := SR_get l hs ss (n + 1) i st h.2 hg
    exact ⟨s', b', h1, h2, by rw [show n + (i + 1) = n + 1 + i by omega]; exact h3⟩
  | [], [], [], n, i, st, h, hg => by simp at hg
  | [], [], _ :: _, _, _, _, h, _ => h.elim
  | [], _ :: _, _, _, _, _, h, _ => h.elim
  | _ :: _, [], _, _, _, _, h, _ => h.elim
  | _ :: _, _ :: _, [], _, _, _, h, _ => h.elim
theorem SR_len {nm : List Str} : ∀ (l : List Lk) (hs : List Bool) (ss : List StepM) (n : Nat), SR nm n l hs ss → ss.length = l.length
  | s :: l, b :: hs, st' :: ss, n, h => by
    show ss.length + 1 = l.length + 1
    rw [SR_len l hs ss (n + 1) h.2]
  | [], [], [], n, h => rfl
  | [], [], _ :: _, _, h => h.elim
  | [], _ :: _, _, _, h => h.elim
  | _ :: _, [], _, _, h => h.elim
  | _ :: _, _ :: _, [], _, h => h.elim
theorem labIx_SR {nm : List Str} (hn : Nm nm) : ∀ (l : List Lk) (hs : List Bool) (ss : List StepM) (n k : Nat), SR nm n l hs ss → n + l.length ≤ 8 → k < l.length → hs[k]? = some true → labIx ss (mkS (nmC nm (n + k))) n = some (n + k)
  | s :: l, b :: hs, st :: ss, n, 0, h, _, _, hk => by
    obtain rfl : b = true := Option.some.inj hk
    unfold labIx
    rw [h.1.label, if_pos rfl, Nat.add_zero, if_pos rfl]
  | s :: l, b :: hs, st :: ss, n, k + 1, h, h8, hkl, hk => by
    simp only [List.length_cons] at h8 hkl
    have ih := labIx_SR hn l hs ss (n + 1) k h.2 (by omega) (by omega) hk
    unfold labIx
    rw [h.1.label, if_neg, show n + (k + 1) = n + 1 + k by omega]
    · exact ih
    · cases b with
      | false => intro z; cases z
      | true =>
        intro z
        have e := mkS_inj (Option.some.inj z)
        have := hn.inj n (n + (k + 1)) (by omega) (by omega) e
        omega
  | [], [], [], _, _, _, _, hkl, _ => by simp at hkl
  | [], [], _ :: _, _, _, h, _, _, _ => h.elim
  | [], _ :: _, _, _, _, h, _, _, _ => h.elim
  | _ :: _, [], _, _, _, h, _, _, _ => h.elim
  | _ :: _, _ :: _, [], _, _, h, _, _, _ => h.elim
section
variable {nm : List Str} (hn : Nm nm) {l : List Lk} {hs : List Bool} {ss : List StepM} (hD : Drawn l) (hf : Flags l hs) (h : SR nm 0 l hs ss)
include hn hD hf h
theorem SR_tgt {st : StepM} {t : Tk} {i : Nat} (hg : ss[i]? = some st) (ht : st.target = some t) : ∃ s m, l[i]? = some s ∧ s.2 = some m ∧ labIx ss t.text 0 = some m := by
  obtain ⟨s, b, h1, h2, h3⟩ := SR_get l hs ss 0 i st h hg
  have e := h3.tgt
  rw [ht] at e
  cases q : s.2 with
  | none => rw [q] at e; cases e
  | some m =>
    rw [q] at e
    have e2 : tl t.text = nmC nm m := Option.some.inj e
    have hm := hD.tgt s (List.mem_of_getElem? h1) m q
    have hmem : some m ∈ l.map (·.2) := List.mem_map.mpr ⟨s, List.mem_of_getElem? h1, q⟩
    have h8 := hD.hi
    have := labIx_SR hn l hs ss 0 m h (by omega) hm (hf.has m hmem)
    rw [Nat.zero_add] at this
    refine ⟨s, m, h1, q, ?_⟩
    rw [← mkS_tl t.text, e2]
    exact this
theorem SR_valid : ValidS ss := by
  have h8 := hD.hi
  have hl := SR_len l hs ss 0 h
  refine ⟨by omega, fun i st t hg ht => ?_, fun st t hm ht => ?_⟩
  · obtain ⟨s, b, h1, h2, h3⟩ := SR_get l hs ss 0 i st h hg
    have e := h3.label
    rw [ht] at e
    cases b with
    | false => cases e
    | true =>
      have e2 : t.text = mkS (nmC nm (0 + i)) := Option.some.inj e
      have := labIx_SR hn l hs ss 0 i h (by omega) (List.getElem?_eq_some_iff.mp h1).1 h2
      rw [e2]
      rw [Nat.zero_add] at this ⊢
      exact this
  · obtain ⟨i, hg⟩ := List.mem_iff_getElem?.mp hm
    obtain ⟨s, m, _, _, e⟩ := SR_tgt hn hD hf h hg ht
    exact ⟨m, e⟩
theorem SR_linked : l = linked ss := by
  have hl := SR_len l hs ss 0 h
  apply List.ext_getElem?
  intro i
  show l[i]? = (ss.map (linkOf ss))[i]?
  rw [List.getElem?_map]
  cases q : ss[i]? with
  | none =>
    have := List.getElem?_eq_none_iff.mp q
    rw [List.getElem?_eq_none (by omega)]
    rfl
  | some st =>
    obtain ⟨s, b, h1, h2, h3⟩ := SR_get l hs ss 0 i st h q
    rw [h1]
    show some s = some (linkOf ss st)
    unfold linkOf
    rw [h3.cmd]
    congr 1
    cases r : st.target with
    | none =>
      have e := h3.tgt
      rw [r] at e
      cases w : s.2 with
      | none =>
        obtain ⟨a, c⟩ := s
        cases w
        rfl
      | some m => rw [w] at e; cases e
    | some t =>
      obtain ⟨s', m, k1, k2, k3⟩ := SR_tgt hn hD hf h q r
      obtain rfl : s = s' := Option.some.inj (h1.symm.trans k1)
      show s = (s.1, labIx ss t.text 0)
      rw [k3, ← k2]
end
theorem reads_of {nm : List Str} (hn : Nm nm) {P : Plm} (hP : DrawnP P) {h0 h1 : List Bool} (f0 : Flags P.l0 h0) (f1 : Flags P.l1 h1) {z : Str} (hx : Lex (tl z) (toks P nm h0 h1)) (hz : z.length + 10 ≤ big) : Reads z P := by
  obtain ⟨ts, n, e1, e2⟩ := lex_all hx
  obtain ⟨p, j, r0, r1, g1, g2, g3, g4, g5, g6, g7⟩ := takePlan_has hn hP f0.len f1.len (n := n) e2
  refine ⟨hz, p, r0, r1, ?_, ?_, SR_linked hn hP.k0 f0 g6, SR_linked hn hP.k1 f1 g7⟩
  · unfold parse
    rw [e1]
    dsimp only
    rw [g1]
  · exact ⟨g2, hP.most, hP.lo, by have := hP.hi; omega, g3, g4, g5, hP.la, hP.lb, hP.ab, SR_valid hn hP.k0 f0 g6, SR_valid hn hP.k1 f1 g7⟩
end SB

set_option maxHeartbeats 4000000
namespace SB
open PySem PySem.Spec PyProof.Rows L2
open TL (tl)
theorem tw_app {p : Nat → Bool} {c : Nat} (hc : p c = false) : ∀ (x y : List Nat), (x ++ c :: y).takeWhile p = x.takeWhile p
  | [], y => by simp [List.takeWhile, hc]
  | a :: x, y => by
    show (a :: (x ++ c :: y)).takeWhile p = (a :: x).takeWhile p
    cases h : p a with
    | true => simp only [List.takeWhile, h, tw_app hc x y]
    | false => simp only [List.takeWhile, h]
theorem longest_app {c : Nat} (hL : isL c = false) (hD : isD c = false) {x : List Nat} (hx : x ≠ []) (y : List Nat) : longest (x ++ c :: y) = longest x := by
  unfold longest
  rw [tw_app hL, tw_app hD]
  cases x with
  | nil => exact absurd rfl hx
  | cons a r => rfl
/-- a word by itself -/
structure Wd (w : List Nat) : Prop where
  ne : w ≠ []
  cs : ∀ c ∈ w, c ≠ 10 ∧ c ≠ 32
  kd : (kindOf w).isSome = true
  lg : longest w = w
def wdB (w : List Nat) : Bool := !w.isEmpty && w.all (fun c => c != 10 && c != 32) && (kindOf w).isSome && decide (longest w = w)
theorem wd_of {w : List Nat} (h : wdB w = true) : Wd w := by
  unfold wdB at h
  simp only [Bool.and_eq_true] at h
  obtain ⟨⟨⟨h1, h2⟩, h3⟩, h4⟩ := h
  refine ⟨?_, fun c hc => ?_, h3, of_decide_eq_true h4⟩
  · intro z
    rw [z] at h1
    cases h1
  · have := List.all_eq_true.mp h2 c hc
    simp at this
    exact this
theorem wd_cmd {w : Str} (h : w ∈ commands) : Wd (tl w) := by
  have : ∀ w ∈ commands, wdB (tl w) = true := by decide +kernel
  exact wd_of (this w h)
theorem wd_num {n : Nat} (h : n < 12) : Wd (TL.numL n) := by
  have : ∀ n < 12, wdB (TL.numL n) = true := by decide +kernel
  exact wd_of (this n h)
theorem wd_colon : Wd [58] := wd_of (by decide +kernel)
theorem wd_semi : Wd [59] := wd_of (by decide +kernel)
theorem wd_open : Wd [123] := wd_of (by decide +kernel)
theorem wd_close : Wd [125] := wd_of (by decide +kernel)
theorem wd_robot : Wd (tl ("robot" : Str)) := wd_of (by decide +kernel)
theorem wd_shelf : Wd (tl ("shelf" : Str)) := wd_of (by decide +kernel)
def brk (c : Nat) : Bool := c == 10 || c == 32 || c == 58 || c == 59 || c == 123 || c == 125
def sgn (c : Nat) : Bool := c == 58 || c == 59 || c == 123 || c == 125
theorem brk_no {c : Nat} (h : brk c = true) : isL c = false ∧ isD c = false := by
  unfold brk at h
  simp only [Bool.or_eq_true, beq_iff_eq] at h
  rcases h with ((((rfl | rfl) | rfl) | rfl) | rfl) | rfl <;> exact ⟨rfl, rfl⟩
/-- what may stand behind a word -/
def Nxt (l : List Nat) : Prop := l = [] ∨ ∃ c r, l = c :: r ∧ brk c = true
/-- a text that falls into words, each with a break behind it -/
inductive LexB : List Nat → List (List Nat) → Prop where
  | nil : LexB [] []
  | blank {l : List Nat} {ws : List (List Nat)} (h : LexB l ws) : LexB (32 :: l) ws
  | line {l : List Nat} {ws : List (List Nat)} (h : LexB l ws) : LexB (10 :: l) ws
  | tok {l w : List Nat} {ws : List (List Nat)} (hw : Wd w) (hs : (∃ c, w = [c] ∧ sgn c = true) ∨ ∀ c ∈ w, isL c = true ∨ isD c = true) (hn : Nxt l) (h : LexB l ws) : LexB (w ++ l) (w :: ws)
theorem LexB.nil_of : ∀ {l : List Nat} {ws : List (List Nat)}, LexB l ws → l = [] → ws = []
  | _, _, .nil, _ => rfl
  | _, _, .blank _, e => by cases e
  | _, _, .line _, e => by cases e
  | _, _, .tok hw _ _ _, e => absurd (List.append_eq_nil_iff.mp e).1 hw.ne
theorem LexB.lex : ∀ {l : List Nat} {ws : List (List Nat)}, LexB l ws → Lex l ws
  | _, _, .nil => .nil
  | _, _, .blank h => .blank h.lex
  | _, _, .line h => .line h.lex
  | _, _, .tok (l := l) (w := w) hw _ hn h => by
    refine .tok hw.ne hw.cs hw.kd ?_ h.lex
    rcases hn with rfl | ⟨c, r, rfl, hc⟩
    · rw [List.append_nil]
      exact hw.lg
    · rw [longest_app (brk_no hc).1 (brk_no hc).2 hw.ne]
      exact hw.lg
/-- two texts, where the second begins with a break -/
theorem lex_join {c : Nat} {l' : List Nat} {ws' : List (List Nat)} (hc : brk c = true) (h' : LexB (c :: l') ws') : ∀ {l : List Nat} {ws : List (List Nat)}, LexB l ws → LexB (l ++ c :: l') (ws ++ ws')
  | _, _, .nil => h'
  | _, _, .blank h => .blank (lex_join hc h' h)
  | _, _, .line h => .line (lex_join hc h' h)
  | _, _, .tok (l := l) (w := w) hw hs hn h => by
    rw [List.append_assoc]
    refine .tok hw hs ?_ (lex_join hc h' h)
    rcases hn with rfl | ⟨d, r, rfl, hd⟩
    · exact .inr ⟨c, l', rfl, hc⟩
    · exact .inr ⟨d, _, rfl, hd⟩
theorem sg_of {w : List Nat} (h : (w.all fun c => isL c || isD c) = true) : (∃ c, w = [c] ∧ sgn c = true) ∨ ∀ c ∈ w, isL c = true ∨ isD c = true := .inr fun c hc => by
  have := List.all_eq_true.mp h c hc
  simpa using this
theorem wd_lex {w : List Nat} (h : Wd w) (ha : (w.all fun c => isL c || isD c) = true) : LexB w [w] := by
  have := LexB.tok (l := []) h (sg_of ha) (.inl rfl) .nil
  rw [List.append_nil] at this
  exact this
theorem al_cmd {w : Str} (h : w ∈ commands) : ((tl w).all fun c => isL c || isD c) = true := by
  have : ∀ w ∈ commands, ((tl w).all fun c => isL c || isD c) = true := by decide +kernel
  exact this w h
theorem al_num {n : Nat} (h : n < 12) : ((TL.numL n).all fun c => isL c || isD c) = true := by
  have : ∀ n < 12, ((TL.numL n).all fun c => isL c || isD c) = true := by decide +kernel
  exact this n h
theorem lex_sign {c : Nat} {l : List Nat} {ws : List (List Nat)} (hs : sgn c = true) (hn : Nxt l) (h : LexB l ws) : LexB (c :: l) ([c] :: ws) := by
  have hw : Wd [c] := by
    unfold sgn at hs
    simp only [Bool.or_eq_true, beq_iff_eq] at hs
    rcases hs with ((rfl | rfl) | rfl) | rfl
    · exact wd_colon
    · exact wd_semi
    · exact wd_open
    · exact wd_close
  exact LexB.tok (w := [c]) hw (.inl ⟨c, rfl, hs⟩) hn h
theorem lex_at {c : Nat} {l l' : List Nat} {ws ws' : List (List Nat)} (hc : brk c = true) (h : LexB l ws) (h' : LexB (c :: l') ws') : LexB (l ++ c :: l') (ws ++ ws') := lex_join hc h' h
/-! ### the canonical text -/
def nmS : List Str := ["sa", "sb", "sc", "sd", "se", "sf", "sg", "sh"]
theorem nmS_lab {k : Nat} (h : k < 8) : nmC nmS k = labC k := by
  have : ∀ k < 8, nmC nmS k = labC k := by decide +kernel
  exact this k h
theorem nmS_ok : Nm nmS := by
  refine ⟨rfl, fun i j hi hj h => ?_, fun i hi => ?_⟩
  · rw [nmS_lab hi, nmS_lab hj] at h
    have := (List.cons.inj (List.cons.inj h).2).1
    omega
  · have : ∀ i < 8, kw (nmC nmS i) = (("name" : Str), nmC nmS i) := by decide +kernel
    exact this i hi
theorem nmS_wd {k : Nat} (h : k < 8) : Wd (nmC nmS k) := by
  have : ∀ k < 8, wdB (nmC nmS k) = true := by decide +kernel
  exact wd_of (this k h)
theorem nmS_al {k : Nat} (h : k < 8) : ((nmC nmS k).all fun c => isL c || isD c) = true := by
  have : ∀ k < 8, ((nmC nmS k).all fun c => isL c || isD c) = true := by decide +kernel
  exact this k h
theorem lex_step {nm : List Str} {n : Nat} {s : Lk} {b : Bool} (hwd : ∀ k, k < 8 → LexB (nmC nm k) [nmC nm k]) (h8 : n < 8) (hc : s.1 ∈ commands) (ht : ∀ t, s.2 = some t → t < 8) : LexB (lstep nm n s b) (ltok nm n s b) := by
  have h59 : LexB [59] [[59]] := lex_sign rfl (.inl rfl) .nil
  have tail : LexB (tl s.1 ++ ((match s.2 with | none => [] | some t => 32 :: nmC nm t) ++ [59])) (tl s.1 :: ((match s.2 with | none => [] | some t => [nmC nm t]) ++ [[59]])) := by
    cases q : s.2 with
    | none => exact lex_at rfl (wd_lex (wd_cmd hc) (al_cmd hc)) h59
    | some t =>
      have h1 : LexB (nmC nm t ++ [59]) [nmC nm t, [59]] := lex_at rfl (hwd t (ht t q)) h59
      exact lex_at rfl (wd_lex (wd_cmd hc) (al_cmd hc)) (.blank h1)
  unfold lstep ltok
  rw [List.append_assoc, List.append_assoc, List.append_assoc, List.append_assoc]
  cases b with
  | false => exact tail
  | true =>
    have h1 : LexB (58 :: 32 :: (tl s.1 ++ ((match s.2 with | none => [] | some t => 32 :: nmC nm t) ++ [59]))) ([58] :: (tl s.1 :: ((match s.2 with | none => [] | some t => [nmC nm t]) ++ [[59]]))) := lex_sign rfl (.inr ⟨32, _, rfl, rfl⟩) (.blank tail)
    have := lex_at rfl (hwd n h8) h1
    show LexB ((nmC nm n ++ [58, 32]) ++ _) _
    rw [List.append_assoc]
    exact this
theorem stepC_eq {tg : List (Option Nat)} {n : Nat} {s : Lk} (h8 : n < 8) (ht : ∀ t, s.2 = some t → t < 8) : stepC tg n s = 32 :: 32 :: lstep nmS n s (decide (some n ∈ tg)) := by
  unfold stepC lstep
  rw [nmS_lab h8]
  have e1 : (if some n ∈ tg then labC n ++ [58, 32] else []) = (if decide (some n ∈ tg) = true then labC n ++ [58, 32] else []) := by
    by_cases m : some n ∈ tg
    · rw [if_pos m, if_pos (decide_eq_true m)]
    · rw [if_neg m, if_neg (by simpa using m)]
  rw [e1]
  cases q : s.2 with
  | none => rfl
  | some t =>
    show _ = 32 :: 32 :: (_ ++ tl s.1 ++ (32 :: nmC nmS t) ++ [59])
    rw [nmS_lab (ht t q)]
    rfl
/-! ### the words of a text whose signs were spaced -/
def sp1 (c d : Nat) : List Nat := if d = c then [32, d, 32] else [d]
def spA (d : Nat) : List Nat := if sgn d then [32, d, 32] else [d]
theorem repl_sp (c : Nat) : ∀ l : List Nat, StrLaws.replL [c] [32, c, 32] l = l.flatMap (sp1 c)
  | [] => StrLaws.replL_nil
  | d :: r => by
    rw [List.flatMap_cons]
    by_cases e : d = c
    · subst e
      rw [StrLaws.replL_hit (by simp) rfl]
      show [32, d, 32] ++ StrLaws.replL [d] [32, d, 32] r = _
      rw [repl_sp d r]
      unfold sp1
      rw [if_pos rfl]
    · rw [StrLaws.replL_miss (by simpa using e), repl_sp c r]
      unfold sp1
      rw [if_neg e]
      rfl
theorem spaced_tl (z : Str) (l : List Nat) : tl (spaced " " " " z l) = l.foldl (fun x c => x.flatMap (sp1 c)) (tl z) := by
  induction l generalizing z with
  | nil => rfl
  | cons c r ih =>
    show tl (spaced " " " " (Txt.replace z ⟨#[c]⟩ (" " ++ ⟨#[c]⟩ ++ " ")) r) = r.foldl (fun x c => x.flatMap (sp1 c)) ((tl z).flatMap (sp1 c))
    rw [ih]
    congr 1
    have e := StrLaws.replace_list (x := z) (y := ⟨#[c]⟩) (z := " " ++ ⟨#[c]⟩ ++ " ") (by show 1 ≤ 1; decide)
    have e2 : ((" " : Str) ++ ⟨#[c]⟩ ++ " ").cps.toList = [32, c, 32] := by
      show tl ((" " : Str) ++ ⟨#[c]⟩ ++ " ") = _
      rw [TL.tl_append, TL.tl_append, blank1]
      rfl
    rw [e2] at e
    exact e.trans (repl_sp c (tl z))
theorem sp_all (l : List Nat) : [59, 58, 123, 125].foldl (fun (x : List Nat) c => x.flatMap (sp1 c)) l = l.flatMap spA := by
  show (((l.flatMap (sp1 59)).flatMap (sp1 58)).flatMap (sp1 123)).flatMap (sp1 125) = _
  induction l with
  | nil => rfl
  | cons d r ih =>
    simp only [List.flatMap_cons, List.flatMap_append]
    rw [ih]
    congr 1
    by_cases h1 : d = 59
    · subst h1; rfl
    · by_cases h2 : d = 58
      · subst h2; rfl
      · by_cases h3 : d = 123
        · subst h3; rfl
        · by_cases h4 : d = 125
          · subst h4; rfl
          · simp [sp1, spA, sgn, h1, h2, h3, h4]
theorem sp_blank : Unicode.isSpace 32 = true := by decide +kernel
theorem sp_line : Unicode.isSpace 10 = true := by decide +kernel
theorem no_space {c : Nat} (h : isL c = true ∨ isD c = true ∨ sgn c = true) : Unicode.isSpace c = false := by
  have : ∀ c < 128, (isL c || isD c || sgn c) = true → Unicode.isSpace c = false := by decide +kernel
  have hc : c < 128 := by
    rcases h with h | h | h
    · unfold isL at h; simp at h; omega
    · unfold isD at h; simp at h; omega
    · unfold sgn at h; simp at h; omega
  exact this c hc (by rcases h with h | h | h <;> simp [h])
theorem wst0 {c : Nat} (h : Unicode.isSpace c = true) (acc : List (List Nat)) : TL.wstep (acc, []) c = (acc, []) := by
  unfold TL.wstep
  rw [if_pos h, if_pos rfl]
theorem wst1 {c : Nat} (h : Unicode.isSpace c = true) (acc : List (List Nat)) {u : List Nat} (hu : u ≠ []) : TL.wstep (acc, u) c = (acc ++ [u], []) := by
  unfold TL.wstep
  rw [if_pos h, if_neg hu]
theorem words_B : ∀ {l : List Nat} {ws : List (List Nat)}, LexB l ws → ∀ acc, TL.wfin ((l.flatMap spA).foldl TL.wstep (acc, [])) = acc ++ ws
  | _, _, .nil, acc => by
    show TL.wfin (acc, []) = acc ++ []
    rw [List.append_nil]
    rfl
  | _, _, .blank h, acc => by
    show TL.wfin (List.foldl TL.wstep (TL.wstep (acc, []) 32) _) = _
    rw [wst0 sp_blank]
    exact words_B h acc
  | _, _, .line h, acc => by
    show TL.wfin (List.foldl TL.wstep (TL.wstep (acc, []) 10) _) = _
    rw [wst0 sp_line]
    exact words_B h acc
  | _, _, .tok (l := l) (w := w) (ws := ws) hw hs hn h, acc => by
    rw [List.flatMap_append, List.foldl_append]
    rcases hs with ⟨c, rfl, hc⟩ | hs
    · have e : [c].flatMap spA = [32, c, 32] := by
        unfold spA
        simp [hc]
      rw [e]
      show TL.wfin (List.foldl TL.wstep (TL.wstep (TL.wstep (TL.wstep (acc, []) 32) c) 32) _) = _
      have e2 : TL.wstep (acc, []) c = (acc, [c]) := by
        unfold TL.wstep
        rw [if_neg (by rw [no_space (.inr (.inr hc))]; decide)]
        rfl
      rw [wst0 sp_blank, e2, wst1 sp_blank acc (by simp), words_B h (acc ++ [[c]]), List.append_assoc]
      rfl
    · have e : w.flatMap spA = w := by
        have : ∀ w : List Nat, (∀ c ∈ w, isL c = true ∨ isD c = true) → w.flatMap spA = w := fun w => by
          induction w with
          | nil => intro _; rfl
          | cons c r ih =>
            intro h
            rw [List.flatMap_cons, ih fun x hx => h x (List.mem_cons_of_mem _ hx)]
            have hc : sgn c = false := by
              have := h c (List.mem_cons_self ..)
              cases q : sgn c with
              | false => rfl
              | true =>
                have nb := brk_no (c := c) (by
                  unfold sgn at q
                  unfold brk
                  simp only [Bool.or_eq_true] at q ⊢
                  rcases q with ((q | q) | q) | q <;> simp [q])
                rcases this with z | z
                · rw [nb.1] at z; cases z
                · rw [nb.2] at z; cases z
            unfold spA
            rw [hc]
            rfl
        exact this w hs
      rw [e, TL.wfold_word w acc [] fun c hc => no_space ((hs c hc).imp id .inl), List.nil_append]
      have key : ∀ d r, Unicode.isSpace d = true → l.flatMap spA = d :: r → TL.wfin ((l.flatMap spA).foldl TL.wstep (acc, w)) = acc ++ w :: ws := fun d r hd hr => by
        have ih := words_B h (acc ++ [w])
        rw [hr] at ih ⊢
        rw [List.foldl_cons, wst0 hd] at ih
        rw [List.foldl_cons, wst1 hd acc hw.ne, ih, List.append_assoc]
        rfl
      rcases hn with rfl | ⟨c, r, rfl, hc⟩
      · rw [h.nil_of rfl]
        show TL.wfin (acc, w) = _
        unfold TL.wfin
        rw [if_neg hw.ne]
      · unfold brk at hc
        simp only [Bool.or_eq_true, beq_iff_eq] at hc
        rcases hc with ((((rfl | rfl) | rfl) | rfl) | rfl) | rfl
        · exact key 10 _ sp_line rfl
        · exact key 32 _ sp_blank rfl
        · exact key 32 _ sp_blank rfl
        · exact key 32 _ sp_blank rfl
        · exact key 32 _ sp_blank rfl
        · exact key 32 _ sp_blank rfl
end SB

set_option maxHeartbeats 4000000
namespace SB
open PySem PySem.Spec PyProof.Rows L2
open TL (tl)
inductive F2 : List (List Nat) → List (List (List Nat)) → Prop where
  | nil : F2 [] []
  | cons {a : List Nat} {b : List (List Nat)} {r : List (List Nat)} {t : List (List (List Nat))} (h : LexB a b) (k : F2 r t) : F2 (a :: r) (b :: t)
theorem F2.app : ∀ {a c : List (List Nat)} {b d : List (List (List Nat))}, F2 a b → F2 c d → F2 (a ++ c) (b ++ d)
  | _, _, _, _, .nil, h => h
  | _, _, _, _, .cons h k, h' => .cons h (k.app h')
theorem lex_lines : ∀ {a : List (List Nat)} {b : List (List (List Nat))}, F2 a b → LexB (TL.joinL [10] a) b.flatten
  | _, _, .nil => .nil
  | _, _, .cons (a := a) (b := b) h .nil => by
    show LexB a (b ++ [])
    rw [List.append_nil]
    exact h
  | _, _, .cons (a := a) (b := b) h (.cons (a := a2) (b := b2) (r := r) (t := t) h2 k) => by
    have ih := lex_lines (.cons h2 k)
    have e : TL.joinL [10] (a :: a2 :: r) = a ++ 10 :: TL.joinL [10] (a2 :: r) := by simp [TL.joinL]
    rw [e]
    exact lex_at rfl h (.line ih)
theorem lex_nums : ∀ (ns : List Nat) (l : List Nat) (ws : List (List Nat)), ns ≠ [] → (∀ n ∈ ns, n < 12) → LexB (59 :: l) ws → LexB (TL.joinL [32] (ns.map TL.numL) ++ 59 :: l) (ns.map TL.numL ++ ws)
  | [], _, _, h, _, _ => absurd rfl h
  | [n], l, ws, _, hn, h => by
    have hm := hn n (List.mem_singleton.mpr rfl)
    exact lex_at rfl (wd_lex (wd_num hm) (al_num hm)) h
  | n :: m :: r, l, ws, _, hn, h => by
    have hm := hn n (List.mem_cons_self ..)
    have ih := lex_nums (m :: r) l ws (by simp) (fun x hx => hn x (List.mem_cons_of_mem _ hx)) h
    have e : TL.joinL [32] ((n :: m :: r).map TL.numL) = TL.numL n ++ 32 :: TL.joinL [32] ((m :: r).map TL.numL) := by simp [TL.joinL]
    rw [e, List.append_assoc]
    have := lex_at (c := 32) rfl (wd_lex (wd_num hm) (al_num hm)) (.blank ih)
    exact this
theorem shelf_sp : tl ("shelf " : Str) = tl ("shelf" : Str) ++ [32] := by decide +kernel
theorem robot_sp : tl ("robot " : Str) = tl ("robot" : Str) ++ [32] := by decide +kernel
theorem lex_hd {P : Plm} (hP : DrawnP P) : LexB (hdC P) ([tl ("shelf" : Str)] ++ P.bx.map TL.numL ++ [[59]]) := by
  have lo := hP.lo
  have h59 : LexB [59] [[59]] := lex_sign rfl (.inl rfl) .nil
  have hn := lex_nums P.bx [] [[59]] (fun z => by rw [z] at lo; exact absurd lo (by decide)) (fun n hn => by have := hP.most n hn; omega) h59
  unfold hdC
  rw [shelf_sp, List.append_assoc, List.append_assoc, List.append_assoc]
  exact lex_at rfl (wd_lex wd_shelf (by decide +kernel)) (.blank hn)
theorem lex_rh {a : Nat} (ha : a < 12) : LexB (tl ("robot " : Str) ++ TL.numL a ++ [32, 123]) [tl ("robot" : Str), TL.numL a, [123]] := by
  have h1 : LexB [123] [[123]] := lex_sign rfl (.inl rfl) .nil
  have h2 := lex_at (c := 32) rfl (wd_lex (wd_num ha) (al_num ha)) (.blank h1)
  rw [robot_sp, List.append_assoc, List.append_assoc]
  exact lex_at rfl (wd_lex wd_robot (by decide +kernel)) (.blank h2)
theorem lex_close : LexB [125] [[125]] := lex_sign rfl (.inl rfl) .nil
/-- the words of steps, line by line -/
def lsT (nm : List Str) : Nat → List Lk → List Bool → List (List (List Nat))
  | n, s :: r, b :: bs => ltok nm n s b :: lsT nm (n + 1) r bs
  | _, _, _ => []
theorem lsT_flat (nm : List Str) : ∀ (l : List Lk) (n : Nat) (hs : List Bool), (lsT nm n l hs).flatten = ltoks nm n l hs
  | [], _, _ => by simp [lsT, ltoks]
  | _ :: _, _, [] => by simp [lsT, ltoks]
  | s :: r, n, b :: bs => by simp [lsT, ltoks, lsT_flat nm r (n + 1) bs]
theorem lex_steps {nm : List Str} (hwd : ∀ k, k < 8 → LexB (nmC nm k) [nmC nm k]) : ∀ (l : List Lk) (n : Nat) (hs : List Bool), n + l.length ≤ 8 → (∀ s ∈ l, s.1 ∈ commands) → (∀ s ∈ l, ∀ t, s.2 = some t → t < 8) → F2 (lsteps nm n l hs) (lsT nm n l hs)
  | [], _, _, _, _, _ => by
    simp only [lsteps, lsT]
    exact .nil
  | _ :: _, _, [], _, _, _ => by
    simp only [lsteps, lsT]
    exact .nil
  | s :: r, n, b :: bs, h8, hc, ht => by
    simp only [List.length_cons] at h8
    exact .cons (lex_step hwd (by omega) (hc s (List.mem_cons_self ..)) (ht s (List.mem_cons_self ..))) (lex_steps hwd r (n + 1) bs (by omega) (fun x hx => hc x (List.mem_cons_of_mem _ hx)) (fun x hx => ht x (List.mem_cons_of_mem _ hx)))
def robT (nm : List Str) (a : Nat) (l : List Lk) (hs : List Bool) : List (List (List Nat)) := [tl ("robot" : Str), TL.numL a, [123]] :: (lsT nm 0 l hs ++ [[[125]]])
theorem robT_flat (nm : List Str) (a : Nat) (l : List Lk) (hs : List Bool) : (robT nm a l hs).flatten = robToks nm a l hs := by
  unfold robT robToks
  simp [lsT_flat]
def allT (P : Plm) (nm : List Str) (h0 h1 : List Bool) : List (List (List Nat)) := ([tl ("shelf" : Str)] ++ P.bx.map TL.numL ++ [[59]]) :: (robT nm P.a P.l0 h0 ++ robT nm P.b P.l1 h1)
theorem allT_flat (P : Plm) (nm : List Str) (h0 h1 : List Bool) : (allT P nm h0 h1).flatten = toks P nm h0 h1 := by
  unfold allT toks
  rw [List.flatten_cons, List.flatten_append, robT_flat, robT_flat]
theorem lex_rob {nm : List Str} (hwd : ∀ k, k < 8 → LexB (nmC nm k) [nmC nm k]) {a : Nat} (ha : a < 12) {l : List Lk} (hD : Drawn l) (hs : List Bool) : F2 (lrob nm a l hs) (robT nm a l hs) := by
  have h8 := hD.hi
  exact .cons (lex_rh ha) ((lex_steps hwd l 0 hs (by omega) hD.cmd (fun s hs t e => Nat.lt_of_lt_of_le (hD.tgt s hs t e) h8)).app (.cons lex_close .nil))
theorem lex_loose {nm : List Str} (hwd : ∀ k, k < 8 → LexB (nmC nm k) [nmC nm k]) {P : Plm} (hP : DrawnP P) (h0 h1 : List Bool) : LexB (looseT P nm h0 h1) (toks P nm h0 h1) := by
  have hi := hP.hi
  have la := hP.la
  have lb := hP.lb
  rw [← allT_flat]
  exact lex_lines (.cons (lex_hd hP) ((lex_rob hwd (by omega) hP.k0 h0).app (lex_rob hwd (by omega) hP.k1 h1)))
/-! the canonical text -/
def flg (tg : List (Option Nat)) : Nat → List Lk → List Bool
  | _, [] => []
  | n, _ :: r => decide (some n ∈ tg) :: flg tg (n + 1) r
theorem flg_len (tg : List (Option Nat)) : ∀ (l : List Lk) (n : Nat), (flg tg n l).length = l.length
  | [], _ => rfl
  | _ :: r, n => by
    show (flg tg (n + 1) r).length + 1 = r.length + 1
    rw [flg_len tg r (n + 1)]
theorem flg_get (tg : List (Option Nat)) : ∀ (l : List Lk) (n i : Nat), i < l.length → (flg tg n l)[i]? = some (decide (some (n + i) ∈ tg))
  | [], _, _, h => by simp at h
  | _ :: r, n, 0, _ => rfl
  | _ :: r, n, i + 1, h => by
    have := flg_get tg r (n + 1) i (by simpa using h)
    show (flg tg (n + 1) r)[i]? = _
    rw [this, show n + 1 + i = n + (i + 1) by omega]
theorem flg_ok {l : List Lk} (hD : Drawn l) : Flags l (flg (l.map (·.2)) 0 l) := by
  refine ⟨flg_len _ l 0, fun k hk => ?_⟩
  obtain ⟨s, hs, e⟩ := List.mem_map.mp hk
  rw [flg_get _ l 0 k (hD.tgt s hs k e), Nat.zero_add, decide_eq_true hk]
theorem nmS_lex (k : Nat) (h : k < 8) : LexB (nmC nmS k) [nmC nmS k] := wd_lex (nmS_wd h) (nmS_al h)
theorem lex_stepLs (tg : List (Option Nat)) : ∀ (l : List Lk) (n : Nat), n + l.length ≤ 8 → (∀ s ∈ l, s.1 ∈ commands) → (∀ s ∈ l, ∀ t, s.2 = some t → t < 8) → F2 (stepsFrom tg n l) (lsT nmS n l (flg tg n l))
  | [], _, _, _, _ => .nil
  | s :: r, n, h8, hc, ht => by
    simp only [List.length_cons] at h8
    have hts := ht s (List.mem_cons_self ..)
    have h1 := lex_step (nm := nmS) (n := n) (s := s) (b := decide (some n ∈ tg)) nmS_lex (by omega) (hc s (List.mem_cons_self ..)) hts
    have h2 : LexB (stepC tg n s) (ltok nmS n s (decide (some n ∈ tg))) := by
      rw [stepC_eq (by omega) hts]
      exact .blank (.blank h1)
    exact .cons h2 (lex_stepLs tg r (n + 1) (by omega) (fun x hx => hc x (List.mem_cons_of_mem _ hx)) (fun x hx => ht x (List.mem_cons_of_mem _ hx)))
theorem lex_robC {a : Nat} (ha : a < 12) {l : List Lk} (hD : Drawn l) : F2 (robC a l) (robT nmS a l (flg (l.map (·.2)) 0 l)) := by
  have h8 := hD.hi
  have k := lex_stepLs (l.map fun (s : Lk) => s.2) l 0 (by omega) hD.cmd (fun s hs t e => Nat.lt_of_lt_of_le (hD.tgt s hs t e) h8)
  exact .cons (lex_rh ha) (k.app (.cons lex_close .nil))
theorem lex_canon {P : Plm} (hP : DrawnP P) : LexB (textC P) (toks P nmS (flg (P.l0.map (·.2)) 0 P.l0) (flg (P.l1.map (·.2)) 0 P.l1)) := by
  have hi := hP.hi
  have la := hP.la
  have lb := hP.lb
  rw [← allT_flat]
  exact lex_lines (.cons (lex_hd hP) ((lex_robC (by omega) hP.k0).app (lex_robC (by omega) hP.k1)))
/-! the loose names -/
theorem nm8_get {nm : List Str} (h : nm.Perm names8) {k : Nat} (hk : k < 8) : ∃ w, nm[k]? = some w ∧ w ∈ names8 ∧ nmC nm k = tl w := by
  have hl : nm.length = 8 := h.length_eq
  have g := List.getElem?_eq_getElem (l := nm) (i := k) (by omega)
  refine ⟨nm[k], g, h.mem_iff.mp (List.getElem_mem _), ?_⟩
  unfold nmC
  rw [List.getD_eq_getElem?_getD, g]
  rfl
theorem nm8_ok {nm : List Str} (h : nm.Perm names8) : Nm nm := by
  refine ⟨h.length_eq, fun i j hi hj e => ?_, fun i hi => ?_⟩
  · obtain ⟨w, g1, _, e1⟩ := nm8_get h hi
    obtain ⟨v, g2, _, e2⟩ := nm8_get h hj
    rw [e1, e2] at e
    rw [← tl_inj e] at g2
    have nd : nm.Nodup := h.nodup_iff.mpr (by decide +kernel)
    exact nodup_ix nd g1 g2
  · obtain ⟨w, g1, m, e1⟩ := nm8_get h hi
    rw [e1]
    have : ∀ w ∈ names8, kw (tl w) = (("name" : Str), tl w) := by decide +kernel
    exact this w m
theorem nm8_lex {nm : List Str} (h : nm.Perm names8) (k : Nat) (hk : k < 8) : LexB (nmC nm k) [nmC nm k] := by
  obtain ⟨w, g1, m, e1⟩ := nm8_get h hk
  rw [e1]
  have a : ∀ w ∈ names8, wdB (tl w) = true := by decide +kernel
  have b : ∀ w ∈ names8, ((tl w).all fun c => isL c || isD c) = true := by decide +kernel
  exact wd_lex (wd_of (a w m)) (b w m)
/-! the words, glued -/
def gl : List Str → List (List Nat) → List Nat
  | g :: gs, w :: ws => tl g ++ (w ++ gl gs ws)
  | _, _ => []
theorem glue_tl : ∀ (acc : Str) (gs : List Str) (ws : List (List Nat)), tl (glue acc gs (ws.map mkS)) = tl acc ++ gl gs ws
  | acc, [], ws => by
    show tl acc = tl acc ++ []
    rw [List.append_nil]
  | acc, g :: gs, [] => by
    show tl acc = tl acc ++ []
    rw [List.append_nil]
  | acc, g :: gs, w :: ws => by
    show tl (glue (acc ++ g ++ mkS w) gs (ws.map mkS)) = tl acc ++ (tl g ++ (w ++ gl gs ws))
    rw [glue_tl (acc ++ g ++ mkS w) gs ws, TL.tl_append, TL.tl_append, tl_mkS, List.append_assoc, List.append_assoc]
def Good (w : List Nat) : Prop := Wd w ∧ ((∃ c, w = [c] ∧ sgn c = true) ∨ ∀ c ∈ w, isL c = true ∨ isD c = true)
theorem good_of : ∀ {l : List Nat} {ws : List (List Nat)}, LexB l ws → ∀ w ∈ ws, Good w
  | _, _, .nil, w, h => by cases h
  | _, _, .blank h, w, hw => good_of h w hw
  | _, _, .line h, w, hw => good_of h w hw
  | _, _, .tok h1 h2 _ h, w, hw => by
    rcases List.mem_cons.mp hw with hw | hw
    · subst hw
      exact ⟨h1, h2⟩
    · exact good_of h w hw
theorem lex_glue : ∀ (gs : List Str) (ws : List (List Nat)), gs.length = ws.length → (∀ g ∈ gs, g ∈ gaps) → (∀ w ∈ ws, Good w) → LexB (gl gs ws) ws ∧ Nxt (gl gs ws)
  | [], [], _, _, _ => ⟨.nil, .inl rfl⟩
  | [], _ :: _, h, _, _ => by cases h
  | _ :: _, [], h, _, _ => by cases h
  | g :: gs, w :: ws, h, hg, hw => by
    obtain ⟨i1, i2⟩ := lex_glue gs ws (Nat.succ.inj h) (fun x hx => hg x (List.mem_cons_of_mem _ hx)) (fun x hx => hw x (List.mem_cons_of_mem _ hx))
    obtain ⟨w1, w2⟩ := hw w (List.mem_cons_self ..)
    have ht := LexB.tok w1 w2 i2 i1
    have e : tl g = [32] ∨ tl g = [32, 32] ∨ tl g = [10] ∨ tl g = [10, 32] := by
      have : ∀ g ∈ gaps, tl g = [32] ∨ tl g = [32, 32] ∨ tl g = [10] ∨ tl g = [10, 32] := by decide +kernel
      exact this g (hg g (List.mem_cons_self ..))
    show LexB (tl g ++ (w ++ gl gs ws)) (w :: ws) ∧ Nxt (tl g ++ (w ++ gl gs ws))
    rcases e with e | e | e | e
    · rw [e]
      exact ⟨.blank ht, .inr ⟨32, _, rfl, rfl⟩⟩
    · rw [e]
      exact ⟨.blank (.blank ht), .inr ⟨32, _, rfl, rfl⟩⟩
    · rw [e]
      exact ⟨.line ht, .inr ⟨10, _, rfl, rfl⟩⟩
    · rw [e]
      exact ⟨.line (.blank ht), .inr ⟨10, _, rfl, rfl⟩⟩
theorem mf : MF := by
  have big1 : big = 1000000 := rfl
  constructor
  · intro P hP
    refine reads_of nmS_ok hP (flg_ok hP.k0) (flg_ok hP.k1) (lex_canon hP).lex ?_
    have := joinL_len (S := [10]) (k := 60) (planC P) (planC_small hP.ok)
    have pl := planC_len hP.ok
    show (textC P).length + 10 ≤ big
    unfold textC
    simp only [List.length_cons, List.length_nil] at this
    omega
  · intro P nm h0 h1 hP pm f0 f1
    apply TL.map_tl_inj
    rw [TL.words_tl, spaced_tl, sp_all, tl_mkS, words_B (lex_loose (nm8_lex pm) hP h0 h1) [], List.nil_append, List.map_map]
    show _ = (toks P nm h0 h1).map fun c => c
    rw [List.map_id']
  · intro P nm h0 h1 gs hP pm f0 f1 hgl hg
    have hL := lex_loose (nm8_lex pm) hP h0 h1
    have hG := (lex_glue gs _ hgl hg (good_of hL)).1
    refine reads_of (nm8_ok pm) hP f0 f1 ?_ ?_
    · rw [glue_tl]
      exact hG.lex
    · have gsmall : ∀ g ∈ gaps, g.length ≤ 2 := by decide +kernel
      have := glue_len "" gs ((toks P nm h0 h1).map mkS) (fun g h => gsmall g (hg g h)) (fun w hw => by
        obtain ⟨c, hc, rfl⟩ := List.mem_map.mp hw
        exact toks_small hP pm c hc)
      have tc := toks_len (nm := nm) (h0 := h0) (h1 := h1) hP
      have e0 : ("" : Str).length = 0 := by decide +kernel
      rw [hgl] at this
      omega
end SB

set_option maxHeartbeats 0
open PySem PySem.W PySem.Calls PyProof.Rows
theorem PySem.Challenge.cw_shelfbots_k03_canonical_plans_holds : PySem.Challenge.rw_shelfbots_k03_canonical_plans.Holds := by
  w_on; o_law
  refine HandSHeadRun.head_any (r := OpenLaw.row PySem.Challenge.rw_shelfbots_k03_canonical_plans) (q := view (OpenLaw.row PySem.Challenge.rw_shelfbots_k03_canonical_plans).prog [59]) (H := SB.hk) (ob := SB.ob) (M := 20000) (loose := SB.loose) (d := HandSHeadRun.topDef (OpenLaw.row PySem.Challenge.rw_shelfbots_k03_canonical_plans).prog 59) (kwd := []) SB.ob_eq
    (by kernel_rfl) (fun s => by kernel_rfl) SB.run (by kernel_rfl) (by kernel_rfl) (by kernel_rfl) (by rfl) (by first | assumption | decide +kernel) (by decide +kernel) ⟨rfl, rfl, rfl, rfl, rfl, by decide +kernel⟩ ?hw ?hc
  case hw => w_witness2
  case hc =>
    refine LamX.walk_ofTsE (l := PySem.Challenge.rw_shelfbots_k03_canonical_plans) (n := 63) (k := 10) (x := "_law_script") (CX := fun w => L2.CX (PySem.Challenge.rw_shelfbots_k03_canonical_plans).prog w) rfl (by decide) (by kernel_rfl) ⟨rfl, by decide, by decide⟩ ?F (fun w H s e s' z => by
      obtain ⟨a, B, H', cls, d, z⟩ := z
      exact z.2.2.2.2.2.2.2)
    intro w mg fa h Y G hmg0
    obtain ⟨K, KX, c⟩ := Y
    have hmg : mg ("law" : PySem.Str) = some (.ref fa) := by
      have e : (HandSHeadRun.topDef (OpenLaw.row PySem.Challenge.rw_shelfbots_k03_canonical_plans).prog 59).name = ("law" : PySem.Str) := by kernel_rfl
      rw [← e]
      exact hmg0
    have T := SB.txt KX G c
    have e := hmg.symm.trans T.g_law
    cases e
    obtain ⟨fd, F⟩ := T.F_law
    have b := L2.FunD.bindsA (ps := ["_law_script"]) F fun _ _ _ _ _ _ us hl => match us, hl with | [_], _ => rfl
    refine ⟨K, KX, fd, [], SB.spLaw K, (fun p hp => by cases hp), (fun p hp => by cases hp), (fun p hp => by cases hp), (fun s v => b s [v] rfl), (fun H a ns hl _ _ hS => ⟨a, ns, rfl, hS, hl, fun _ => rfl⟩), fun base _ _ _ => SB.ok_law SB.mf T F⟩
