import PyProof.Rows.All
import Wide.All
import OpenK.AllK
import Wide.FinOn
import PyProof.EqAt
import PyProof.EqKinds
import PyProof.TupleCall
import KE.BitLaws
import Open.SpecLaws
import KE.OsHead
import KE.OsGo
import PyProof.Rows.StrDigitsNeg
import PyProof.Rows.StrOr
import PyProof.Rows.Digits
import PyProof.Rows.RuleM_int
import PyProof.FString
import KE.KLam
import PyWqbbbo
import KE.KEqSeq
import Open.Pieces
import PySem.Challenge.RW_thirdsums_s02_part
set_option Elab.async false
set_option linter.all false
set_option maxRecDepth 100000
section
set_option maxRecDepth 1000000
namespace Th
open PySem PySem.W PyProof.Rows
def an3 (tb:String->Option Builtin)(p:Program)(w:World)(n₀:Nat)(ann:Option Value):Nat->SharedT->Thread->Option SharedT
 | 0,_,_=>none
 | n+1,s,t=>match through t with
  | true=>some s
  | false=>match stepOk n₀ ann t with
   | false=>none
   | true=>match stepT (denote tb) p w s t with
    | some (s',t')=>an3 tb p w n₀ ann n s' t'
    | none=>none
theorem av3 {tb:String->Option Builtin}{p:Program}{w:World}{n₀:Nat}{ann:Option Value}:∀ {n:Nat}{s s':SharedT}{t:Thread},an3 tb p w n₀ ann n s t=some s'->topRun tb p w n₀ ann n s.abs t=some s'.abs
 | 0,_,_,_,h=>by cases h
 | n+1,s,s',t,h=>by
  unfold an3 at h
  unfold topRun
  cases he:through t with
  | true=>rw [he] at h;cases h;rfl
  | false =>
   rw [he] at h
   cases hk:stepOk n₀ ann t with
   | false=>rw [hk] at h;cases h
   | true =>
    rw [hk] at h
    cases hs:stepT (denote tb) p w s t with
    | none=>rw [hs] at h;cases h
    | some r=>obtain ⟨s₂,t₂⟩:=r;rw [hs] at h;rw [stepT_spec hs];exact av3 h
def grow:List Obj->BT->Nat->Option BT
 | [],t,_=>some t
 | o::l,t,n=>match ((t.ins n o).get n).isSome with
  | true=>grow l (t.ins n o) (n+1)
  | false=>none
theorem aT4 {life:Life}:∀ {l:List Obj}{t T:BT}{n:Nat}{xs:List Obj},grow l t n=some T->absHeap t n life=⟨xs.toArray,life⟩->absHeap T (n+l.length) life=⟨(xs++l).toArray,life⟩
 | [],t,T,n,xs,h,e=>by cases h;rw [List.append_nil];exact e
 | o::l,t,T,n,xs,h,e=>by
  unfold grow at h
  cases hg:((t.ins n o).get n).isSome with
  | false=>rw [hg] at h;cases h
  | true =>
   rw [hg] at h
   have e2:absHeap (t.ins n o) (n+1) life=⟨(xs++[o]).toArray,life⟩:=by
    rw [absHeap_ins hg,e]
    show (⟨xs.toArray.push o,life⟩:Heap)=_
    rw [List.push_toArray]
   have:=aT4 (l:=l) h e2
   rw [List.length_cons,show n+(l.length+1)=n+1+l.length by omega,this,List.append_assoc]
   rfl
def bE6 (tb:String->Option Builtin)(p:Program)(w:World)(N:Nat):Option Shared:=(fencedOpening tb p w N).bind fun s₀=>match s₀.heap.isNs mainGlobals && s₀.gens.size == 0 with
 | true=>(grow s₀.heap.objs.toList .nil 0).bind fun T=>(an3 tb p w s₀.heap.objs.size (s₀.heap.nsMap mainGlobals "__annotations__") N ⟨T,s₀.heap.objs.size,s₀.heap.life,s₀.gens,s₀.drawn,s₀.toks,s₀.os⟩ (topStub p)).bind fun s₁ =>
   match staticsOk (importedModules p.main.body) s₀.heap s₁.abs.heap && namesBound p s₁.abs.heap && gensDone s₁.abs && laidKept s₀.heap s₁.abs.heap with
   | true=>some s₁.abs
   | false=>none
 | false=>none
theorem br8 {tb:String->Option Builtin}{p:Program}{w:World}{N:Nat}{s:Shared}(h:bE6 tb p w N=some s):openEnds tb p w N=some s:=by
 unfold bE6 at h
 unfold openEnds
 obtain ⟨s₀,e0,h⟩:=Option.bind_eq_some_iff.mp h
 rw [e0]
 show topFrom tb p w N s₀=some s
 unfold topFrom
 cases hg:(s₀.heap.isNs mainGlobals && s₀.gens.size == 0) with
 | false=>rw [hg] at h;cases h
 | true =>
  rw [hg] at h
  dsimp only at h ⊢
  obtain ⟨T,eT,h⟩:=Option.bind_eq_some_iff.mp h
  obtain ⟨s₁,e1,h⟩:=Option.bind_eq_some_iff.mp h
  have ha:absHeap T s₀.heap.objs.size s₀.heap.life=s₀.heap:=by
   have:=aT4 (life:=s₀.heap.life) (xs:=[]) eT rfl
   rw [Nat.zero_add,List.nil_append,Array.length_toList] at this
   rw [this]
  have:=av3 e1
  rw [show (SharedT.abs ⟨T,s₀.heap.objs.size,s₀.heap.life,s₀.gens,s₀.drawn,s₀.toks,s₀.os⟩)=s₀ from by unfold SharedT.abs;dsimp only;rw [ha]] at this
  rw [this]
  dsimp only [Option.bind_some]
  exact h
end Th

open PySem PySem.W PyProof.Rows
def Th.tp (i:Nat):Stmt:=PySem.Challenge.pw_thirdsums_s02_part.main.body.getD i (.Pass ⟨0,0,0,0⟩)
def Th.vw:Program:={ PySem.Challenge.pw_thirdsums_s02_part with main:={ PySem.Challenge.pw_thirdsums_s02_part.main with body:=[Th.tp 1,Th.tp 2,Th.tp 3,Th.tp 4,Th.tp 5,Th.tp 6,Th.tp 7,Th.tp 8,Th.tp 9,Th.tp 11,Th.tp 12,Th.tp 13,Th.tp 14,Th.tp 15,Th.tp 17,Th.tp 18,Th.tp 19,Th.tp 20,Th.tp 21,Th.tp 22,Th.tp 23,Th.tp 24,Th.tp 25,Th.tp 26,Th.tp 27,Th.tp 29,Th.tp 30,Th.tp 31,Th.tp 32,Th.tp 33,Th.tp 34,Th.tp 35,Th.tp 36,Th.tp 37,Th.tp 38,Th.tp 40,Th.tp 41,Th.tp 42,Th.tp 43,Th.tp 44,Th.tp 46,Th.tp 47,Th.tp 48,Th.tp 49,Th.tp 50,Th.tp 51,Th.tp 52,Th.tp 53,Th.tp 54,Th.tp 55,Th.tp 56,Th.tp 57,Th.tp 58,Th.tp 59,Th.tp 61,Th.tp 62,Th.tp 63,Th.tp 64,Th.tp 65,Th.tp 66,Th.tp 67,Th.tp 68,Th.tp 69,Th.tp 70,Th.tp 71,Th.tp 72,Th.tp 73,Th.tp 74,Th.tp 75,Th.tp 76,Th.tp 77,Th.tp 78,Th.tp 79,Th.tp 80,Th.tp 81,Th.tp 82,Th.tp 83,Th.tp 84,Th.tp 85,Th.tp 87,Th.tp 88,Th.tp 89,Th.tp 91,Th.tp 92,Th.tp 93,Th.tp 94,Th.tp 95] } }
local macro_rules | `(tactic| o_headS $H) => `(tactic| contradiction)
theorem Th.dummy:False->PySem.Challenge.rw_thirdsums_s02_part.Holds:=by
 intro hf
 w_on;k_headS
def Th.as:List Addr:=[2,3,15,16,17,19,20,22,23,24,26,27,29,30,31,33,34,36,37,38,40,41,43,44,45,47,48,50,51,52,54,55,57,58,59,61,62,64,65,66,73,74,75,76,79,86,88,89,91,92,93,94,95,96,99,106,107,108,109,112,119,120,121,122,125,132,133,134,135,138,140,141,143,144,145,147,148,150,151,152,154,155,157,158,159,161,162,164,165,166,168,169,171,172,173,175,176,178,179,180,182,183,185,186,187,189,190,192,193,194,196,197,199,200,201,203,204,206,207,208,210,211,213,214,215,217,218,220,221,222,224,225,227,228,229,232,233,234,236,237,239,240,241,243,244,246,247,255,257,258,260,261,262,263,264,265,266,269,271,272,274,275,276,278,279,281,282,283,285,286,288,289,290,292,293,295,296,297,298,300,301,303,304,305,307,308,310,311,312,314,315,317,318,319,322,323,324,326,327,329,330,331,333,334,336,337,338,340,341,343,344,345,347,348,350,351,359,361,362,364,365,366,367,368,369,370,380,382,383,385,386,387,388,389,390,391,401,403,404,406,407,408,410,411,413,414,415,417,418,420,421,422,424,425,427,428,429,431,432,434,435,436,438,439,441,442,443,445,446,448,449,450,451,452,453,454,457,459,460,462,463,464,466,467,469,470,471,473,474,476,477,478,480,481,483,484,485,487,488,490,491,492,494,495,497,498,499,501,502,504,505,506,508,509,511,512,513,515,516,518,519,520,522,523,525,526,527,529,530,532,533,534,536,537,539,540,541,543,544,546,547,548,550,551,553,554,555,557,558,560,561,562,564,565,567,568,569,572,573,574,576,577,579,580,581,584,585,586,588,589,591,592]
theorem Th.as_eq:∀ P,Th.as=(Th.dummy.heap_1 P).map (·.1):=fun P=>by kernel_rfl
def Th.run (w:World):=Th.bE6 treeTable PySem.Challenge.pw_thirdsums_s02_part w 8366
def Th.runA (w:World):=(Th.run w).map fun s=>seen ((recsOf Th.vw).map (·.name)) (ownsOf Th.vw) [] { s with gens:=#[] }
theorem Th.runA_self:Th.runA=Th.runA:=rfl
lay_quick Th.runA
name_quick thA for Th.runA by Th.runA_self
theorem Th.leftA:∀ w,W.Fast.thA w=some (expectedOf Th.vw):=fun w=>by kernel_rfl
def Th.runB (w:World):=(Th.run w).map fun s=>s.heap.keysOk (looseW Th.vw []) ((recsOf Th.vw).map (·.name)) ((litsOf Th.vw).map (·.1)) ((clssOf Th.vw (looseW Th.vw [])).map (·.name)) && s.heap.accountedOkI (importedModules PySem.Challenge.pw_thirdsums_s02_part.main.body) && s.heap.isNs mainGlobals && s.heap.isNs builtinsNs && tablesOk Th.vw s.heap && (xlAt Th.vw [] s && recOk [] s) && (if true then s.gens.size == 0 else !leftWithCleanup s.gens)
theorem Th.runB_self:Th.runB=Th.runB:=rfl
lay_quick Th.runB
name_quick thB for Th.runB by Th.runB_self
theorem Th.leftB:∀ w,W.Fast.thB w=some (true):=fun w=>by kernel_rfl
def Th.runC (w:World):=(Th.run w).map fun s=>(s.heap.bltView,tabsOk Th.vw s)
theorem Th.runC_self:Th.runC=Th.runC:=rfl
lay_quick Th.runC
name_quick thC for Th.runC by Th.runC_self
theorem Th.leftC:∀ w,W.Fast.thC w=some (bltViewBooted,true):=fun w=>by kernel_rfl
def Th.runE (w:World):=(Th.run w).map fun s=>(pinSeenD Th.vw (drecsOf Th.vw) s,plainSeenE Th.vw (looseW Th.vw []) s)
theorem Th.runE_self:Th.runE=Th.runE:=rfl
lay_quick Th.runE
name_quick thE for Th.runE by Th.runE_self
theorem Th.leftE:∀ w,W.Fast.thE w=some (pinGoodD (drecsOf Th.vw),plainGoodE Th.vw (looseW Th.vw [])):=fun w=>by kernel_rfl
def Th.runF (w:World):=(Th.run w).map fun s=>(plainSeenD Th.vw [] s,wideSeen Th.vw s,clsSeenW Th.vw [] s)
theorem Th.runF_self:Th.runF=Th.runF:=rfl
lay_quick Th.runF
name_quick thF for Th.runF by Th.runF_self
theorem Th.leftF:∀ w,W.Fast.thF w=some (plainGoodD Th.vw [],wideGood Th.vw,clsGoodW Th.vw []):=fun w=>by kernel_rfl
def Th.runD (w:World):=(Th.run w).map fun s=>Th.as.map s.heap.get?
theorem Th.runD_self:Th.runD=Th.runD:=rfl
lay_quick Th.runD
name_quick thD for Th.runD by Th.runD_self
theorem Th.leftD:∀ w,W.Fast.thD w=some ((Th.dummy.heap_1 w.params).map fun p=>some p.2):=fun w=>by kernel_rfl
theorem Th.left_o:LeftO PySem.Challenge.pw_thirdsums_s02_part Th.vw [] (fun s=>xlAt Th.vw [] s && recOk [] s) (Hook.obs (kHook Th.dummy.heap_1 Th.as Th.as_eq)) (Hook.val (kHook Th.dummy.heap_1 Th.as Th.as_eq)) 8366:=fun w=>by
 show (openEnds treeTable PySem.Challenge.pw_thirdsums_s02_part w 8366).map (fun s=>(openSeen Th.vw [] (importedModules PySem.Challenge.pw_thirdsums_s02_part.main.body) (fun s=>xlAt Th.vw [] s && recOk [] s) true s,Th.as.map s.heap.get?))=some (openGood Th.vw [],(Th.dummy.heap_1 w.params).map fun p=>some p.2)
 have h1:=Th.leftA w
 have h2:=Th.leftB w
 have h3:=Th.leftC w
 have h4:=Th.leftD w
 have h5:=Th.leftE w
 have h6:=Th.leftF w
 rw [<-W.Fast.thA_eq] at h1
 rw [<-W.Fast.thB_eq] at h2
 rw [<-W.Fast.thC_eq] at h3
 rw [<-W.Fast.thD_eq] at h4
 rw [<-W.Fast.thE_eq] at h5
 rw [<-W.Fast.thF_eq] at h6
 unfold Th.runA at h1
 unfold Th.runB at h2
 unfold Th.runC at h3
 unfold Th.runD at h4
 unfold Th.runE at h5
 unfold Th.runF at h6
 obtain ⟨s,e,f1⟩:=Option.map_eq_some_iff.mp h1
 rw [e] at h2 h3 h4 h5 h6
 have f2:=Option.some.inj h2
 have f3:=Option.some.inj h3
 have f4:=Option.some.inj h4
 have f5:=Option.some.inj h5
 have f6:=Option.some.inj h6
 rw [Th.br8 e]
 show some _=some _
 rw [<-f4]
 refine congrArg (fun z=>some (z,Th.as.map s.heap.get?)) ?_
 unfold openSeen openGood
 rw [<-f1]
 refine Prod.ext rfl (Prod.ext (congrArg (·.1) f3) (Prod.ext f2 ?_))
 exact Prod.ext (congrArg (·.2) f3) (Prod.ext (congrArg (·.1) f5) (Prod.ext (congrArg (·.2) f5) f6))
end
namespace Ma
open Ln Ln.Text
def ak0 (c:UInt8):Bool:=c == 32 || c == 9 || c == 10 || c == 13
def C3:Bool->Bytes->Nat
 | _,[]=>0
 | cm,c::r =>
  let c1:=if c=35 then true else cm
  let c2:=if c=10 then false else c1
  if (!c2 && !ak0 c)=true then 0 else 1+C3 c2 r
theorem av8:∀ r:Bytes,C3 true r=(r.takeWhile fun (x:UInt8)=>x != 10).length+C3 false (r.drop (r.takeWhile fun (x:UInt8)=>x != 10).length)
 | []=>rfl
 | c::r=>by
  by_cases h:c=10
  ·subst h
   simp [C3,ak0]
  ·have ih:=av8 r
   have h1:(c != 10)=true:=by simpa using h
   simp only [List.takeWhile_cons,h1,if_true,List.length_cons,List.drop_succ_cons]
   by_cases h2:c=35
   ·subst h2
    simp only [C3]
    simp
    omega
   ·simp only [C3,h2,h,if_false]
    simp
    omega
theorem ab5:∀ (f:Nat) (b:Bytes),b.length < f->blanks f b=C3 false b
 | 0,b,h=>by omega
 | f+1,[],h=>rfl
 | f+1,c::r,h=>by
  have hr:r.length < f:=by simp at h;omega
  by_cases h1:c=35
  ·subst h1
   show 1+_+blanks f _=1+C3 true r
   rw [ab5 f _ (by simp;omega),av8]
   omega
  ·by_cases h2:c=32\/c=9\/c=10\/c=13
   ·have e:blanks (f+1) (c::r)=1+blanks f r:=by simp only [blanks,h1,if_false,h2,if_true]
    rw [e,ab5 f r hr]
    have e2:ak0 c=true:=by simp only [ak0,Bool.or_eq_true,beq_iff_eq];rcases h2 with h | h | h | h<;>simp [h]
    simp only [C3,h1,if_false,e2]
    by_cases h3:c=10<;>simp [h3]
   ·have e:blanks (f+1) (c::r)=0:=by simp only [blanks,h1,if_false,h2]
    rw [e]
    have e2:ak0 c=false:=by
     simp only [ak0,Bool.or_eq_false_iff,beq_eq_false_iff_ne]
     simp only [not_or] at h2
     exact ⟨⟨⟨h2.1,h2.2.1⟩,h2.2.2.1⟩,h2.2.2.2⟩
    have h3:¬ c=10:=by intro q;exact h2 (.inr (.inr (.inl q)))
    simp [C3,h1,e2,h3]
theorem aQ8:∀ (cm:Bool) (b:Bytes),C3 cm b<=b.length
 | _,[]=>Nat.le_refl _
 | cm,c::r=>by
  have e:C3 cm (c::r)=if (!(if c=10 then false else if c=35 then true else cm) && !ak0 c)=true then 0 else 1+C3 (if c=10 then false else if c=35 then true else cm) r:=rfl
  rw [e]
  generalize (if c=10 then false else if c=35 then true else cm)=d
  have:=aQ8 d r
  by_cases h:(!d && !ak0 c)=true
  ·rw [if_pos h];exact Nat.zero_le _
  ·rw [if_neg h];simp only [List.length_cons];omega
def l4 (b:Bytes)(p:Nat):Nat:=p+C3 false (b.drop p)
def g8 (b:Bytes)(p:Nat):Tok×Nat:=tokenIn (b.drop (l4 b p))
def z6:Tok->Bool
 | .end_=>true
 | .broken=>true
 | _=>false
def Lx (b:Bytes)(p:Nat):List Lex:=lexes ((b.drop p).length+1) p (b.drop p)
abbrev nA (b:Bytes):Bytes:=b.takeWhile isDigit
abbrev nR (b:Bytes):Bytes:=b.drop (nA b).length
abbrev nP (b:Bytes):Bool:=(nR b).head? == some 46
abbrev nZ (b:Bytes):Bytes:=if nP b=true then ((nR b).drop 1).takeWhile isDigit else []
abbrev nN (b:Bytes):Nat:=(nA b).length+(if nP b=true then 1+(nZ b).length else 0)
abbrev nOk (b:Bytes):Prop:=(!((b.drop (nN b)).head?.any fun (c:UInt8)=>isLetter c || c == 46))=true/\(nA b).length+(nZ b).length<=DIGITS/\(nP b=false\/nZ b≠[])
theorem D0 (b:Bytes):numberIn b=if nOk b then (.num (natural (nA b++nZ b)) (nZ b).length (nP b),nN b) else (.broken,0):=rfl
theorem bB1 (b:Bytes):nN b<=b.length:=by
 have t1:(nA b).length<=b.length:=(List.takeWhile_prefix _).length_le
 cases hp:nP b with
 | false=>simp only [nN,hp];simpa using t1
 | true =>
  have q:0 < (nR b).length:=by
   cases z:nR b with
   | nil=>simp only [nP,z] at hp;cases hp
   | cons=>simp
  have t2:(((nR b).drop 1).takeWhile isDigit).length<=((nR b).drop 1).length:=(List.takeWhile_prefix _).length_le
  simp only [nN,nZ,hp,if_true]
  simp only [List.length_drop] at q t2 ⊢
  omega
theorem bJ2 (b:Bytes):(numberIn b).2<=b.length:=by
 rw [D0]
 by_cases h:nOk b
 ·rw [if_pos h];exact bB1 b
 ·rw [if_neg h];exact Nat.zero_le _
theorem az4 (b:Bytes)(h:z6 (tokenIn b).1=false):1<=(tokenIn b).2/\(tokenIn b).2<=b.length:=by
 cases b with
 | nil=>simp [tokenIn,z6] at h
 | cons c r =>
  by_cases h1:isLetter c=true
  ·have e1:((c::r).takeWhile fun (x:UInt8)=>isLetter x || isDigit x)=c::(r.takeWhile fun (x:UInt8)=>isLetter x || isDigit x):=by simp [List.takeWhile_cons,h1]
   have t1:(r.takeWhile fun (x:UInt8)=>isLetter x || isDigit x).length<=r.length:=(List.takeWhile_prefix _).length_le
   simp only [tokenIn,h1,if_true] at h ⊢
   split at h
   ·simp [z6] at h
   ·rename_i h2
    rw [if_neg h2]
    split<;>simp only [e1,List.length_cons]<;>omega
  ·by_cases h2:isDigit c=true
   ·have e:tokenIn (c::r)=numberIn (c::r):=by simp only [tokenIn,h1,h2,if_true];rfl
    rw [e] at h ⊢
    refine ⟨?_,bJ2 _⟩
    have t:1<=(nA (c::r)).length:=by simp [nA,List.takeWhile_cons,h2]
    rw [D0] at h ⊢
    by_cases h3:nOk (c::r)
    ·rw [if_pos h3]
     show 1<=(nA (c::r)).length+_
     omega
    ·rw [if_neg h3] at h
     cases h
   ·by_cases h3:isMark c=true
    ·simp only [tokenIn,h1,h2,h3,if_true]
     simp
    ·simp [tokenIn,h1,h2,h3,z6] at h
theorem ar8:∀ (f:Nat) (i:Nat) (r:Bytes),r.length < f->lexes f i r=lexes (r.length+1) i r:=by
 have key:∀ (n f g i:Nat) (r:Bytes),r.length<=n->r.length < f->r.length < g->lexes f i r=lexes g i r:=by
  intro n
  induction n with
  | zero =>
   intro f g i r hn hf hg
   have:r=[]:=by cases r with | nil=>rfl | cons=>simp at hn
   subst this
   cases f with
   | zero=>omega
   | succ f=>cases g with
    | zero=>omega
    | succ g=>rfl
  | succ n ih =>
   intro f g i r hn hf hg
   cases f with
   | zero=>omega
   | succ f=>cases g with
    | zero=>omega
    | succ g =>
     have e:∀ f,lexes (f+1) i r=⟨i+blanks (r.length+1) r,(tokenIn (r.drop (blanks (r.length+1) r))).1⟩::(match (tokenIn (r.drop (blanks (r.length+1) r))).1 with
      | .end_=>[]
      | .broken=>[]
      | _=>lexes f (i+blanks (r.length+1) r+(tokenIn (r.drop (blanks (r.length+1) r))).2) ((r.drop (blanks (r.length+1) r)).drop (tokenIn (r.drop (blanks (r.length+1) r))).2)):=fun f=>rfl
     rw [e,e]
     have tp:=az4 (r.drop (blanks (r.length+1) r))
     have hl:∀ (q:z6 (tokenIn (r.drop (blanks (r.length+1) r))).1=false),((r.drop (blanks (r.length+1) r)).drop (tokenIn (r.drop (blanks (r.length+1) r))).2).length+1<=r.length:=fun q=>by
      have:=tp q
      simp only [List.length_drop] at this ⊢
      omega
     generalize tokenIn (r.drop (blanks (r.length+1) r))=x at hl
     obtain ⟨x1,x2⟩:=x
     cases x1 with
     | end_=>rfl
     | broken=>rfl
     | word w=>have:=hl rfl;dsimp only at this ⊢;rw [ih f g _ _ (by omega) (by omega) (by omega)]
     | name w=>have:=hl rfl;dsimp only at this ⊢;rw [ih f g _ _ (by omega) (by omega) (by omega)]
     | num n k p=>have:=hl rfl;dsimp only at this ⊢;rw [ih f g _ _ (by omega) (by omega) (by omega)]
     | mark c=>have:=hl rfl;dsimp only at this ⊢;rw [ih f g _ _ (by omega) (by omega) (by omega)]
 intro f i r h
 exact key r.length f _ i r (Nat.le_refl _) h (Nat.lt_succ_self _)
theorem B4 (b:Bytes)(p:Nat):Lx b p=⟨l4 b p,(g8 b p).1⟩::(if z6 (g8 b p).1=true then [] else Lx b (l4 b p+(g8 b p).2)):=by
 unfold Lx
 generalize hr:b.drop p=r
 have e:lexes (r.length+1) p r=⟨p+blanks (r.length+1) r,(tokenIn (r.drop (blanks (r.length+1) r))).1⟩::(match (tokenIn (r.drop (blanks (r.length+1) r))).1 with
      | .end_=>[]
      | .broken=>[]
      | _=>lexes r.length (p+blanks (r.length+1) r+(tokenIn (r.drop (blanks (r.length+1) r))).2) ((r.drop (blanks (r.length+1) r)).drop (tokenIn (r.drop (blanks (r.length+1) r))).2)):=rfl
 have es:blanks (r.length+1) r=C3 false r:=ab5 _ _ (Nat.lt_succ_self _)
 have e1:l4 b p=p+C3 false r:=by unfold l4;rw [hr]
 have e2:g8 b p=tokenIn (r.drop (C3 false r)):=by unfold g8;rw [e1,<-hr,List.drop_drop]
 have tp:=az4 (r.drop (C3 false r))
 rw [e,es,e1,e2]
 have hl:∀ (q:z6 (tokenIn (r.drop (C3 false r))).1=false),lexes r.length (p+C3 false r+(tokenIn (r.drop (C3 false r))).2) ((r.drop (C3 false r)).drop (tokenIn (r.drop (C3 false r))).2)=lexes ((b.drop (p+C3 false r+(tokenIn (r.drop (C3 false r))).2)).length+1) (p+C3 false r+(tokenIn (r.drop (C3 false r))).2) (b.drop (p+C3 false r+(tokenIn (r.drop (C3 false r))).2)):=fun q=>by
  have:=tp q
  have z:(r.drop (C3 false r)).drop (tokenIn (r.drop (C3 false r))).2=b.drop (p+C3 false r+(tokenIn (r.drop (C3 false r))).2):=by
   rw [List.drop_drop,<-hr,List.drop_drop]
   congr 1;omega
  rw [z]
  refine ar8 _ _ _ ?_
  rw [<-z]
  simp only [List.length_drop] at this ⊢
  omega
 generalize tokenIn (r.drop (C3 false r))=x at hl
 obtain ⟨x1,x2⟩:=x
 cases x1 with
 | end_=>rfl
 | broken=>rfl
 | word w=>exact congrArg _ (hl rfl)
 | name w=>exact congrArg _ (hl rfl)
 | num n k p=>exact congrArg _ (hl rfl)
 | mark c=>exact congrArg _ (hl rfl)
theorem aV5 (b:Bytes):tokens b=Lx b 0:=by
 unfold tokens Lx
 rw [ar8 _ _ _ (by omega)]
 rfl
end Ma
namespace Ma
open Ln Ln.Text
inductive K where
 | w (s:String) | m (c:UInt8) | name | whole | pointed | fin | none
 deriving DecidableEq
def isK:K->Tok->Bool
 | .w s,t=>t == .word (ascii s)
 | .m c,t=>t == .mark c
 | .name,.name _=>true
 | .whole,.num _ _ false=>true
 | .pointed,.num _ _ true=>true
 | .fin,t=>t == .end_
 | .none,t=>t == .broken
 | _,_=>false
theorem c8 {α β:Type}(m:P α)(k:α->P β)(l:List Lex):(m >>= k) l=match m l with
  | .error e=>.error e
  | .ok (a,l')=>k a l':=by
 show (StateT.bind m k) l=_
 unfold StateT.bind
 show Except.bind (m l) _=_
 cases m l with
 | error e=>rfl
 | ok x=>rfl
theorem aa2 {α:Type}(a:α)(l:List Lex):(pure a:P α) l=.ok (a,l):=rfl
theorem B8 (l:List Lex):pass l=.ok ((),l.drop 1):=rfl
theorem C4 (b:Bool)(k p:Nat)(l:List Lex):need b k p l=if b=true then .ok ((),l) else .error (k,p):=by
 unfold need;cases b<;>rfl
theorem A7 (x:Lex)(r:List Lex):peek (x::r)=if x.tok=.broken then .error (1,x.at_) else .ok (x,x::r):=by
 show (match (x::r) with | x::_=>if x.tok=.broken then halt 1 x.at_ else pure x | []=>halt 2 0:P Lex) (x::r)=_
 by_cases h:x.tok=.broken
 ·simp only [h,if_true];rfl
 ·simp only [h,if_false];rfl
def hd:P Lex:=fun l=>match l with
 | x::_=>.ok (x,l)
 | []=>.error (2,0)
def sees (k:K):P Bool:=fun l=>match l with
 | x::_=>.ok (isK k x.tok,l)
 | []=>.error (2,0)
def refuse {α:Type}(n:Nat):P α:=fun l=>match l with
 | x::_=>.error (n,x.at_)
 | []=>.error (2,0)
def expect (ks:List K):P Unit:=fun l=>match l with
 | x::_=>if x.tok=.broken then .error (1,x.at_) else if (ks.any fun k=>isK k x.tok)=true then .ok ((),l) else .error (2,x.at_)
 | []=>.error (2,0)
def x8 (k:K):P Tok:=fun l=>match expect [k] l with
 | .error e=>.error e
 | .ok _=>match l with
  | x::r=>.ok (x.tok,r)
  | []=>.error (2,0)
def Y6 {α:Type}(k:P α):Prop:=∀ x r,x.tok=.broken->k (x::r)=.error (1,x.at_)
def ae4:Tok->Nat
 | .num n _ _=>n
 | _=>0
def bQ2:Tok->Nat
 | .num _ k _=>k
 | _=>0
def ag0:P Rat:=do
 let t ← x8 .pointed
 pure ((ae4 t:Rat) / (10 ^ bQ2 t:Nat))
def z8:P Rat:=do
 expect [.whole,.pointed]
 if (← sees .pointed)=true then ag0
 else do
  let t ← x8 .whole
  if (← sees (.m 47))=false then pure (ae4 t:Rat)
  else do
   pass
   expect [.whole]
   let y ← hd
   if ae4 y.tok=0 then refuse 6
   else do
    pass
    pure ((ae4 t:Rat) / (ae4 y.tok:Rat))
def S9:P Rat:=do
 if (← sees (.m 45))=false then z8
 else do
  pass
  let q ← z8
  pure (-q)
def B5 (bad:Bool)(ks:List K):P Unit:=do
 expect ks
 if bad=true then refuse 6 else pure ()
def T0 (c:UInt8):P Rat:=do
 let q ← z8
 B5 (decide (q < 1)) [.m c]
 pass
 pure q
def O7:P Rat:=do
 expect [.w "flat",.w "curve",.w "radius"]
 if (← sees (.w "flat"))=true then do pass;pure 0
 else if (← sees (.w "curve"))=true then do pass;S9
 else do
  pass
  let r ← S9
  B5 (decide (r=0)) [.w "conic",.w "clear",.m 59]
  pure (1 / r)
def T3:P Rat:=do
 if (← sees (.w "conic"))=false then pure 0
 else do
  pass
  S9
theorem y9 (k:K)(x:Lex)(r:List Lex):sees k (x::r)=.ok (isK k x.tok,x::r):=rfl
theorem aT3 (x:Lex)(r:List Lex):hd (x::r)=.ok (x,x::r):=rfl
theorem y8 (ks:List K)(x:Lex)(r:List Lex):expect ks (x::r)=if x.tok=.broken then .error (1,x.at_) else if (ks.any fun k=>isK k x.tok)=true then .ok ((),x::r) else .error (2,x.at_):=rfl
theorem B1 (k:K)(x:Lex)(r:List Lex):x8 k (x::r)=if x.tok=.broken then .error (1,x.at_) else if isK k x.tok=true then .ok (x.tok,r) else .error (2,x.at_):=by
 show (match expect [k] (x::r) with
  | .error e=>(.error e:Except Fault (Tok×List Lex))
  | .ok _=>.ok (x.tok,r))=_
 rw [y8]
 by_cases h:x.tok=.broken
 ·rw [if_pos h,if_pos h]
 ·rw [if_neg h,if_neg h]
  cases z:isK k x.tok<;>simp [z]
theorem N0 (s:String)(x:Lex)(r:List Lex):word s (x::r)=if x.tok=.broken then .error (1,x.at_) else if isK (.w s) x.tok=true then .ok (x.at_,r) else .error (2,x.at_):=by
 unfold word
 rw [c8,A7]
 by_cases h:x.tok=.broken
 ·rw [if_pos h,if_pos h]
 ·rw [if_neg h,if_neg h]
  dsimp only
  rw [c8,C4]
  show _=if (x.tok == .word (ascii s))=true then _ else _
  cases z:(x.tok == .word (ascii s))<;>rfl
theorem ac3 (c:UInt8)(x:Lex)(r:List Lex):mark c (x::r)=if x.tok=.broken then .error (1,x.at_) else if isK (.m c) x.tok=true then .ok (x.at_,r) else .error (2,x.at_):=by
 unfold mark
 rw [c8,A7]
 by_cases h:x.tok=.broken
 ·rw [if_pos h,if_pos h]
 ·rw [if_neg h,if_neg h]
  dsimp only
  rw [c8,C4]
  show _=if (x.tok == .mark c)=true then _ else _
  cases z:(x.tok == .mark c)<;>rfl
theorem Y5 (c:UInt8)(x:Lex)(r:List Lex):isMarkNext c (x::r)=if x.tok=.broken then .error (1,x.at_) else .ok (isK (.m c) x.tok,x::r):=by
 unfold isMarkNext
 rw [c8,A7]
 by_cases h:x.tok=.broken
 ·rw [if_pos h,if_pos h]
 ·rw [if_neg h,if_neg h];rfl
theorem x9 (s:String)(x:Lex)(r:List Lex):isWordNext s (x::r)=if x.tok=.broken then .error (1,x.at_) else .ok (isK (.w s) x.tok,x::r):=by
 unfold isWordNext
 rw [c8,A7]
 by_cases h:x.tok=.broken
 ·rw [if_pos h,if_pos h]
 ·rw [if_neg h,if_neg h];rfl
theorem K8 (k:K)(h:k≠.none):isK k .broken=false:=by
 cases k with
 | none=>exact absurd rfl h
 | _=>rfl
theorem aJ0 {α:Type}(q:K)(k:Tok->P α):Y6 (x8 q >>= k):=fun x r h=>by
 rw [c8,B1,if_pos h]
theorem aO1 {α:Type}(c:UInt8)(k:Nat->P α):Y6 (mark c >>= k):=fun x r h=>by
 rw [c8,ac3,if_pos h]
theorem U4 {α:Type}(k:Rat->P α)(hk:∀ q,Y6 (k q)):(z8 >>= k)=(number >>= k):=by
 funext l
 rw [c8,c8]
 cases l with
 | nil=>rfl
 | cons x r =>
  unfold z8 number
  rw [c8,c8,y8,A7]
  by_cases h:x.tok=.broken
  ·rw [if_pos h,if_pos h]
  ·rw [if_neg h,if_neg h]
   obtain ⟨p,t⟩:=x
   cases t with
   | num n z pt =>
    cases pt with
    | true=>rfl
    | false =>
     dsimp only
     rw [show (([K.whole,K.pointed].any fun k=>isK k (Tok.num n z false))=true) from rfl,if_pos rfl]
     dsimp only
     rw [c8,y9]
     dsimp only
     rw [if_neg (show ¬ (isK .pointed (Tok.num n z false)=true) from Bool.false_ne_true),c8,B1,if_neg h]
     dsimp only
     rw [if_pos (show isK .whole (Tok.num n z false)=true from rfl),c8,B8]
     dsimp only
     rw [c8,c8]
     cases r with
     | nil=>rfl
     | cons y r =>
      dsimp only [List.drop]
      rw [y9,Y5]
      by_cases hy:y.tok=.broken
      ·rw [if_pos hy,hy,K8 _ (by decide)]
       dsimp only
       rw [if_pos rfl,aa2]
       exact hk _ y r hy
      ·rw [if_neg hy]
       dsimp only
       cases hm:isK (.m 47) y.tok with
       | false=>rfl
       | true =>
        rw [if_neg (by decide),if_pos rfl,c8,c8,B8]
        dsimp only [List.drop]
        rw [c8,c8]
        cases r with
        | nil=>rfl
        | cons u r =>
         rw [y8,A7]
         by_cases hu:u.tok=.broken
         ·rw [if_pos hu,if_pos hu]
         ·rw [if_neg hu,if_neg hu]
          obtain ⟨p2,t2⟩:=u
          cases t2 with
          | num n2 z2 pt2 =>
           cases pt2 with
           | true=>rfl
           | false =>
            dsimp only
            rw [show (([K.whole].any fun k=>isK k (Tok.num n2 z2 false))=true) from rfl,if_pos rfl]
            dsimp only
            rw [c8,aT3,c8,B8]
            dsimp only
            rw [c8,C4]
            by_cases hz:n2=0
            ·subst hz;rfl
            ·rw [if_neg (show ¬ (ae4 (Tok.num n2 z2 false)=0) from hz),if_pos (by simpa using hz)];rfl
          | _=>rfl
   | _=>rfl
theorem az3 {α:Type}(k:Rat->P α)(hk:∀ q,Y6 (k q)):(S9 >>= k)=(value >>= k):=by
 funext l
 rw [c8,c8]
 cases l with
 | nil=>rfl
 | cons x r =>
  unfold S9 value
  rw [c8,c8,y9,Y5]
  by_cases h:x.tok=.broken
  ·rw [if_pos h,h,K8 _ (by decide)]
   dsimp only
   rw [if_pos rfl]
   unfold z8
   rw [c8,y8,if_pos h]
  ·rw [if_neg h]
   dsimp only
   cases hm:isK (.m 45) x.tok with
   | false =>
    rw [if_pos rfl,if_neg (by decide)]
    have:=congrFun (U4 k hk) (x::r)
    rw [c8,c8] at this
    exact this
   | true =>
    rw [if_neg (by decide),if_pos rfl,c8,c8,B8]
    dsimp only [List.drop]
    have:=congrFun (U4 (fun q=>k (-q)) (fun q=>hk _)) r
    rw [c8,c8] at this ⊢
    generalize z8 r=A at this
    generalize number r=B at this
    cases A<;>cases B<;>exact this
end Ma
namespace Ma
open Ln Ln.Text
theorem A1 {α β:Type}{m:P α}{k k':α->P β}(h:∀ a,k a=k' a):(m >>= k)=(m >>= k'):=by
 have:k=k':=funext h
 rw [this]
theorem bm1 (c:UInt8):T0 c=index c:=by
 unfold T0 index
 rw [U4 _ (fun q=>by unfold B5;exact fun x r h=>by rw [c8,c8,y8,if_pos h])]
 refine A1 fun q=>?_
 funext l
 cases l with
 | nil=>rfl
 | cons x r =>
  unfold B5
  rw [c8,c8,c8,y8,ac3]
  by_cases h:x.tok=.broken
  ·rw [if_pos h,if_pos h]
  ·rw [if_neg h,if_neg h]
   have e:(([K.m c].any fun k=>isK k x.tok)=true)=(isK (.m c) x.tok=true):=by simp
   simp only [e]
   cases z:isK (.m c) x.tok with
   | false=>rfl
   | true =>
    simp only [if_true]
    rw [c8,C4]
    by_cases hq:q < 1
    ·have h2:¬ (1<=q):=Rat.not_le.mpr hq
     simp only [hq,h2,decide_true,decide_false,if_true]
     rfl
    ·have h2:1<=q:=Rat.not_lt.mp hq
     simp only [hq,h2,decide_true,decide_false,if_true]
     rfl
def C8 (taken:Bytes->Bool):P Bytes:=fun l=>match l with
 | x::r=>if x.tok=.broken then .error (1,x.at_) else match x.tok with
  | .name b=>if taken b=true then .error (3,x.at_) else .ok (b,r)
  | _=>.error (2,x.at_)
 | []=>.error (2,0)
theorem ax0 (x:Lex)(r:List Lex):name (x::r)=if x.tok=.broken then .error (1,x.at_) else match x.tok with
  | .name b=>.ok ((x.at_,b),r)
  | _=>.error (2,x.at_):=by
 unfold name
 rw [c8,A7]
 by_cases h:x.tok=.broken
 ·rw [if_pos h,if_pos h]
 ·rw [if_neg h,if_neg h]
  obtain ⟨p,t⟩:=x
  cases t<;>rfl
theorem aG8 {α:Type}(taken:Bytes->Bool)(ok:Bytes->Bool)(ho:∀ b,ok b=!taken b)(k:Bytes->P α):(name >>= fun n=>need (ok n.2) 3 n.1 >>= fun _=>k n.2)=(C8 taken >>= k):=by
 funext l
 rw [c8,c8]
 cases l with
 | nil=>rfl
 | cons x r =>
  rw [ax0]
  unfold C8
  dsimp only
  by_cases h:x.tok=.broken
  ·rw [if_pos h,if_pos h]
  ·rw [if_neg h,if_neg h]
   obtain ⟨p,t⟩:=x
   cases t with
   | name b =>
    dsimp only
    rw [c8,C4,ho]
    cases taken b<;>rfl
   | _=>rfl
def ap3 (l:List Glass)(b:Bytes):Bool:=l.any fun g=>g.name == b
def az7 (l:List Elem)(b:Bytes):Bool:=l.any fun g=>g.name == b
theorem aV0 {α:Type}(f:α->Bytes)(l:List α)(b:Bytes):(l.all fun g=>f g != b)=!(l.any fun g=>f g == b):=by
 induction l with
 | nil=>rfl
 | cons a l ih=>rw [List.all_cons,List.any_cons,ih,Bool.not_or];rfl
theorem ai7 {α:Type}(s:String)(k:P α):(word s >>= fun _=>k)=(x8 (.w s) >>= fun _=>k):=by
 funext l
 rw [c8,c8]
 cases l with
 | nil=>rfl
 | cons x r =>
  rw [N0,B1]
  by_cases h:x.tok=.broken
  ·rw [if_pos h,if_pos h]
  ·rw [if_neg h,if_neg h]
   cases isK (.w s) x.tok<;>rfl
theorem ai8 {α:Type}(c:UInt8)(k:P α):(mark c >>= fun _=>k)=(x8 (.m c) >>= fun _=>k):=by
 funext l
 rw [c8,c8]
 cases l with
 | nil=>rfl
 | cons x r =>
  rw [ac3,B1]
  by_cases h:x.tok=.broken
  ·rw [if_pos h,if_pos h]
  ·rw [if_neg h,if_neg h]
   cases isK (.m c) x.tok<;>rfl
def X3 (l:List Glass):P Glass :=
 if l.length=64 then refuse 5 else do
  pass
  let n ← C8 (ap3 l)
  let _ ← x8 (.m 58)
  let a ← T0 44
  let b ← T0 44
  let c ← T0 59
  pure ⟨n,[a,b,c]⟩
theorem bm7 (l:List Glass)(hl:l.length<=64)(x:Lex)(r:List Lex)(hx:isK (.w "glass") x.tok=true):X3 l (x::r)=glass l (x::r):=by
 have hb:¬ x.tok=.broken:=by intro q;rw [q] at hx;cases hx
 unfold X3 glass
 rw [c8,N0,if_neg hb,if_pos hx]
 dsimp only
 rw [c8,C4]
 by_cases h:l.length=64
 ·have h2:¬ l.length < GLASSES:=by unfold GLASSES;omega
  rw [if_pos h]
  simp only [h2,decide_false]
  rfl
 ·have h2:l.length < GLASSES:=by unfold GLASSES;omega
  rw [if_neg h]
  simp only [h2,decide_true,if_true]
  rw [c8,B8]
  dsimp only [List.drop]
  have e:=aG8 (ap3 l) (fun b=>l.all fun g=>g.name != b) (fun b=>aV0 (·.name) l b) (fun n=>mark 58 >>= fun _=>index 44 >>= fun a=>index 44 >>= fun b=>index 59 >>= fun c=>(pure ⟨n,[a,b,c]⟩:P Glass))
  refine Eq.trans ?_ (congrFun e r).symm
  simp only [bm1,ai8]
theorem af1 (a b:Nat):(0:Rat)<=(a:Rat) / (b:Rat):=by
 have e:(a:Rat) / (b:Rat)=Rat.divInt (a:Int) (b:Int):=by rw [Rat.divInt_eq_div];rfl
 rw [e]
 refine Rat.num_nonneg.mp ?_
 rw [Rat.num_divInt]
 exact Int.ediv_nonneg (Int.mul_nonneg (by cases b with
  | zero=>decide
  | succ n=>rw [Int.sign_eq_one_of_pos (by omega)];decide) (Int.natCast_nonneg a)) (Int.natCast_nonneg _)
theorem au3 {l l':List Lex}{q:Rat}(h:z8 l=.ok (q,l')):0<=q:=by
 cases l with
 | nil=>cases h
 | cons x r =>
  unfold z8 at h
  rw [c8,y8] at h
  split at h
  ·cases h
  ·rename_i a l1 h0
   split at h0
   ·cases h0
   ·split at h0
    ·cases h0
     rw [c8,y9] at h
     dsimp only at h
     split at h
     ·unfold ag0 at h
      rw [c8,B1] at h
      split at h
      ·cases h
      ·cases h;exact af1 _ _
     ·rw [c8,B1] at h
      split at h
      ·cases h
      ·rename_i t l2 h3
       rw [c8] at h
       split at h
       ·cases h
       ·rename_i b l3 h4
        split at h
        ·cases h
         have:=af1 (ae4 t) 1
         rw [show ((1:Nat):Rat)=1 from rfl] at this
         have e:(ae4 t:Rat) / 1=(ae4 t:Rat):=by grind
         rw [e] at this;exact this
        ·rw [c8,B8] at h
         dsimp only at h
         rw [c8] at h
         split at h
         ·cases h
         ·rw [c8] at h
          split at h
          ·cases h
          ·rename_i y l5 h6
           split at h
           ·cases l5<;>cases h
           ·cases h;exact af1 _ _
    ·cases h0
theorem Y0 (bad:Bool)(ks:List K)(x:Lex)(r:List Lex):B5 bad ks (x::r)=if x.tok=.broken then .error (1,x.at_) else if (ks.any fun k=>isK k x.tok)=true then (if bad=true then .error (6,x.at_) else .ok ((),x::r)) else .error (2,x.at_):=by
 unfold B5
 rw [c8,y8]
 by_cases h:x.tok=.broken
 ·rw [if_pos h,if_pos h]
 ·rw [if_neg h,if_neg h]
  by_cases h2:(ks.any fun k=>isK k x.tok)=true
  ·rw [if_pos h2,if_pos h2]
   cases bad<;>rfl
  ·rw [if_neg h2,if_neg h2]
theorem ag9 {α:Type}(bad:Bool)(ks:List K)(k:Unit->P α):Y6 (B5 bad ks >>= k):=fun x r h=>by
 rw [c8,Y0,if_pos h]
theorem ab6 {α β γ:Type}(m:P α)(f:α->P β)(g:β->P γ):(m >>= f >>= g)=(m >>= fun a=>f a >>= g):=by
 funext l
 rw [c8,c8,c8]
 cases m l with
 | error e=>rfl
 | ok x=>exact (c8 _ _ _).symm
def aO8:P Rat:=do
  if (← isWordNext "flat")=true then do pass;pure 0
  else if (← isWordNext "curve")=true then do pass;value
  else do
   let _ ← word "radius"
   let r ← value
   let x ← peek
   need (x.tok == .word (ascii "conic") || (x.tok == .word (ascii "clear") || x.tok == .mark 59)) 2 x.at_
   need (r != 0) 6 x.at_
   pure (1 / r)
theorem by2 {α:Type}(k:Rat->P α)(hk:∀ q,Y6 (k q)):(O7 >>= k)=(aO8 >>= k):=by
 funext l
 cases l with
 | nil=>rfl
 | cons x r =>
  unfold O7 aO8
  rw [c8,c8,c8,c8,y8,x9]
  by_cases h:x.tok=.broken
  ·rw [if_pos h,if_pos h]
  ·rw [if_neg h,if_neg h]
   dsimp only
   have ea:(([K.w "flat",K.w "curve",K.w "radius"].any fun k=>isK k x.tok)=true)=(isK (.w "flat") x.tok=true\/isK (.w "curve") x.tok=true\/isK (.w "radius") x.tok=true):=by simp [List.any_cons]
   simp only [ea]
   cases h1:isK (.w "flat") x.tok with
   | true =>
    simp only [true_or,if_true]
    rw [c8,y9]
    simp only [h1,if_true]
   | false =>
    cases h2:isK (.w "curve") x.tok with
    | true =>
     simp only [true_or,or_true,if_true]
     rw [c8,y9]
     simp only [h1]
     rw [if_neg (by decide),if_neg (by decide),c8,c8,y9,x9,if_neg h]
     simp only [h2,if_true]
     rw [c8,c8,B8]
     have:=congrFun (az3 k hk) r
     rw [c8,c8] at this
     exact this
    | false =>
     cases h3:isK (.w "radius") x.tok with
     | false =>
      simp only [Bool.false_eq_true,or_self,if_false]
      rw [c8,x9,if_neg h]
      simp only [h2]
      rw [if_neg (by decide),c8,N0,if_neg h,h3,if_neg (by decide)]
     | true =>
      simp only [or_true,if_true]
      rw [c8,y9]
      simp only [h1]
      rw [if_neg (by decide),if_neg (by decide),c8,c8,y9,x9,if_neg h]
      simp only [h2]
      rw [if_neg (by decide),if_neg (by decide),c8,c8,B8,N0,if_neg h,h3,if_pos rfl]
      dsimp only [List.drop]
      have e1:=congrFun (az3 (fun q=>B5 (decide (q=0)) [.w "conic",.w "clear",.m 59] >>= fun _=>(pure (1 / q):P Rat)) (fun q=>ag9 _ _ _)) r
      rw [e1]
      have e2:∀ q:Rat,(B5 (decide (q=0)) [.w "conic",.w "clear",.m 59] >>= fun _=>(pure (1 / q):P Rat))=(peek >>= fun x=>need (x.tok == .word (ascii "conic") || (x.tok == .word (ascii "clear") || x.tok == .mark 59)) 2 x.at_ >>= fun _=>need (q != 0) 6 x.at_ >>= fun _=>(pure (1 / q):P Rat)):=fun q=>by
       funext l
       cases l with
       | nil=>rfl
       | cons y r =>
        rw [c8,c8,Y0,A7]
        by_cases hy:y.tok=.broken
        ·rw [if_pos hy,if_pos hy]
        ·rw [if_neg hy,if_neg hy]
         dsimp only
         rw [c8,C4]
         have eb:([K.w "conic",K.w "clear",K.m 59].any fun k=>isK k y.tok)=(y.tok == .word (ascii "conic") || (y.tok == .word (ascii "clear") || y.tok == .mark 59)):=by
          simp only [List.any_cons,List.any_nil,Bool.or_false];rfl
         rw [eb]
         cases (y.tok == .word (ascii "conic") || (y.tok == .word (ascii "clear") || y.tok == .mark 59)) with
         | false=>rfl
         | true =>
          rw [if_pos rfl,if_pos rfl]
          dsimp only
          rw [c8,C4]
          by_cases hq:q=0
          ·subst hq;rfl
          ·have hn:(q != 0)=true:=by simpa using hq
           rw [hn]
           simp only [hq,decide_false]
           rfl
      simp only [e2]
theorem by3 {α:Type}(c:Rat)(k:Rat×Rat->P α)(hk:∀ q,Y6 (k q)):(T3 >>= fun z=>k (c,z))=(isWordNext "conic" >>= fun b=>(if b=true then (do
  pass
  let k ← value
  pure (c,k)) else pure (c,0):P (Rat×Rat)) >>= k):=by
 funext l
 cases l with
 | nil=>rfl
 | cons x r =>
  unfold T3
  rw [c8,c8,c8,y9,x9]
  by_cases h:x.tok=.broken
  ·rw [if_pos h,h,K8 _ (by decide)]
   exact hk _ x r h
  ·rw [if_neg h]
   dsimp only
   cases h1:isK (.w "conic") x.tok with
   | false =>
    rw [if_pos rfl,if_neg (by decide),c8]
    rfl
   | true =>
    rw [if_neg (by decide),if_pos rfl,c8,c8,c8,B8]
    dsimp only [List.drop]
    have e:=congrFun (az3 (fun z=>k (c,z)) (fun z=>hk _)) r
    rw [c8,c8] at e
    rw [c8]
    generalize S9 r=A at e
    generalize value r=B at e
    cases A<;>cases B<;>exact e
theorem bq7 {α:Type}(k:Rat×Rat->P α)(hk:∀ q,Y6 (k q)):(O7 >>= fun c=>T3 >>= fun z=>k (c,z))=(shape >>= k):=by
 have e:shape=(aO8 >>= fun c=>isWordNext "conic" >>= fun b=>(if b=true then (do
  pass
  let k ← value
  pure (c,k)) else pure (c,0):P (Rat×Rat))):=rfl
 have g:∀ c,Y6 (T3 >>= fun z=>k (c,z)):=fun c x r h=>by
  unfold T3
  rw [c8,c8,y9,h,K8 _ (by decide)]
  exact hk _ x r h
 rw [e,ab6,by2 _ g]
 refine A1 fun c=>?_
 rw [by3 c k hk,ab6]
def F3:P (Option Rat):=do
 if (← sees (.w "clear"))=true then do
  pass
  let q ← z8
  B5 (decide (q=0)) [.m 59]
  pure (some q)
 else pure none
theorem aU5 {α:Type}(k:Option Rat->P α):(F3 >>= fun c=>x8 (.m 59) >>= fun _=>k c)=(clearEnd >>= k):=by
 funext l
 cases l with
 | nil=>rfl
 | cons x r =>
  unfold F3 clearEnd
  rw [c8,c8,c8,c8,y9,x9]
  by_cases h:x.tok=.broken
  ·rw [if_pos h,h,K8 _ (by decide)]
   dsimp only
   rw [if_neg (by decide),aa2]
   dsimp only
   rw [c8,B1,if_pos h]
  ·rw [if_neg h]
   dsimp only
   cases h1:isK (.w "clear") x.tok with
   | false =>
    rw [if_neg (by decide),if_neg (by decide),aa2]
    dsimp only
    rw [<-ai8,c8,c8]
    cases mark 59 (x::r) with
    | error e=>rfl
    | ok z=>rfl
   | true =>
    rw [if_pos rfl,if_pos rfl,c8,c8,B8]
    dsimp only [List.drop]
    have e1:=congrFun (U4 (fun q=>B5 (decide (q=0)) [.m 59] >>= fun _=>(pure (some q):P (Option Rat))) (fun q=>ag9 _ _ _)) r
    have e3:=congrFun (U4 (fun q=>mark 59 >>= fun e=>need (decide (0 < q)) 6 e >>= fun _=>(pure (some q):P (Option Rat))) (fun q=>aO1 _ _)) r
    rw [<-e3,c8,c8]
    cases hA:z8 r with
    | error e=>rfl
    | ok z =>
     obtain ⟨q,l'⟩:=z
     have hq:=au3 hA
     dsimp only
     cases l' with
     | nil=>rfl
     | cons y l' =>
      rw [c8,c8,Y0,ac3]
      by_cases hy:y.tok=.broken
      ·rw [if_pos hy,if_pos hy]
      ·rw [if_neg hy,if_neg hy]
       have eb:([K.m 59].any fun k=>isK k y.tok)=isK (.m 59) y.tok:=by simp
       rw [eb]
       cases hm:isK (.m 59) y.tok with
       | false=>rfl
       | true =>
        rw [if_pos rfl,if_pos rfl]
        dsimp only
        rw [c8,C4]
        by_cases hz:q=0
        ·subst hz;rfl
        ·have hp:0 < q:=by grind
         simp only [hz,hp,decide_false,decide_true,if_true]
         rw [if_neg (by decide)]
         dsimp only [aa2]
         rw [c8,B1,if_neg hy,hm,if_pos rfl]
end Ma
namespace Ma
open Ln Ln.Text
def D2 (n:Bytes)(g:Rat)(kind:Kind)(flatOne:Bool):P Elem :=
 if flatOne=true then do
  let c ← F3
  let _ ← x8 (.m 59)
  pure ⟨n,g,kind,0,0,c⟩
 else do
  let s ← O7
  let z ← T3
  let c ← F3
  let _ ← x8 (.m 59)
  pure ⟨n,g,kind,s,z,c⟩
def al0 (gl:List Glass)(others:List Elem)(t:Tok):P Elem :=
 if others.length=64 then refuse 5 else do
  pass
  let n ← C8 (az7 others)
  let _ ← x8 (.w "after")
  let g ← z8
  if isK (.w "surface") t=true then do
   let _ ← x8 (.w "into")
   let m ← glassNamed gl
   D2 n g (.surface m) false
  else if isK (.w "stop") t=false then D2 n g .mirror false
  else D2 n g .halt_ true
theorem am1 {α:Type}(k:Option Rat->P α):Y6 (F3 >>= fun c=>x8 (.m 59) >>= fun _=>k c):=fun x r h=>by
 unfold F3
 rw [c8,c8,y9,h,K8 _ (by decide)]
 dsimp only
 rw [if_neg (by decide),aa2]
 dsimp only
 rw [c8,B1,if_pos h]
theorem bd8 (n:Bytes)(g:Rat)(kind:Kind):D2 n g kind false=(shape >>= fun s=>clearEnd >>= fun c=>(pure ⟨n,g,kind,s.1,s.2,c⟩:P Elem)):=by
 have e:=bq7 (fun s=>F3 >>= fun c=>x8 (.m 59) >>= fun _=>(pure ⟨n,g,kind,s.1,s.2,c⟩:P Elem)) (fun q=>am1 _)
 show (O7 >>= fun c=>T3 >>= fun z=>F3 >>= fun o=>x8 (.m 59) >>= fun _=>(pure ⟨n,g,kind,c,z,o⟩:P Elem))=_
 rw [e]
 refine A1 fun s=>?_
 exact aU5 _
theorem bC5 (n:Bytes)(g:Rat)(kind:Kind):D2 n g kind true=(clearEnd >>= fun c=>(pure ⟨n,g,kind,0,0,c⟩:P Elem)):=aU5 _
theorem aD0 (n:Bytes)(g:Rat)(kind:Kind):Y6 (D2 n g kind false):=fun x r h=>by
 show (O7 >>= _) (x::r)=_
 unfold O7
 rw [c8,c8,y8,if_pos h]
theorem aC9 (n:Bytes)(g:Rat)(kind:Kind):Y6 (D2 n g kind true):=am1 _
theorem ap0 {s:String}{t:Tok}(h:isK (.w s) t=true):t=.word (ascii s):=eq_of_beq h
theorem bx6 (gl:List Glass)(others:List Elem)(hl:others.length<=64)(x:Lex)(r:List Lex)(hx:isK (.w "surface") x.tok=true\/isK (.w "mirror") x.tok=true\/isK (.w "stop") x.tok=true) :
  al0 gl others x.tok (x::r)=elem gl others (x::r):=by
 have hb:¬ x.tok=.broken:=by intro q;rw [q] at hx;rcases hx with h | h | h<;>cases h
 unfold al0 elem
 rw [c8,A7,if_neg hb]
 dsimp only
 have hn:(x.tok == .word (ascii "surface") || (x.tok == .word (ascii "mirror") || x.tok == .word (ascii "stop")))=true:=by
  rcases hx with h | h | h
  ·rw [show (x.tok == .word (ascii "surface"))=true from h];rfl
  ·rw [show (x.tok == .word (ascii "mirror"))=true from h,Bool.true_or,Bool.or_true]
  ·rw [show (x.tok == .word (ascii "stop"))=true from h,Bool.or_true,Bool.or_true]
 rw [c8,C4,hn,if_pos rfl]
 dsimp only
 rw [c8,C4]
 by_cases h:others.length=64
 ·have h2:¬ others.length < ELEMS:=by unfold ELEMS;omega
  rw [if_pos h]
  simp only [h2,decide_false]
  rfl
 ·have h2:others.length < ELEMS:=by unfold ELEMS;omega
  rw [if_neg h]
  simp only [h2,decide_true,if_true]
  rw [c8,c8,B8]
  dsimp only [List.drop]
  generalize ht:x.tok=t at hx
  have e:=aG8 (az7 others) (fun b=>others.all fun g=>g.name != b) (fun b=>aV0 (·.name) others b) (fun n=>word "after" >>= fun _=>number >>= fun g =>
   if t=.word (ascii "surface") then (do
    let _ ← word "into"
    let m ← glassNamed gl
    let s ← shape
    let c ← clearEnd
    pure ⟨n,g,.surface m,s.1,s.2,c⟩:P Elem)
   else if t=.word (ascii "mirror") then (do
    let s ← shape
    let c ← clearEnd
    pure ⟨n,g,.mirror,s.1,s.2,c⟩)
   else (do
    let c ← clearEnd
    pure ⟨n,g,.halt_,0,0,c⟩))
  refine Eq.trans ?_ (congrFun e r).symm
  refine congrFun (A1 fun n=>?_) r
  rw [ai7]
  refine A1 fun _=>?_
  have ek:∀ g:Rat,(if isK (.w "surface") t=true then (do
    let _ ← x8 (.w "into")
    let m ← glassNamed gl
    D2 n g (.surface m) false:P Elem)
   else if isK (.w "stop") t=false then D2 n g .mirror false
   else D2 n g .halt_ true)=(if t=.word (ascii "surface") then (do
    let _ ← word "into"
    let m ← glassNamed gl
    let s ← shape
    let c ← clearEnd
    pure ⟨n,g,.surface m,s.1,s.2,c⟩:P Elem)
   else if t=.word (ascii "mirror") then (do
    let s ← shape
    let c ← clearEnd
    pure ⟨n,g,.mirror,s.1,s.2,c⟩)
   else (do
    let c ← clearEnd
    pure ⟨n,g,.halt_,0,0,c⟩)):=fun g=>by
   rcases hx with h | h | h
   ·rw [if_pos h,if_pos (ap0 h),ai7]
    simp only [bd8]
   ·have q:=ap0 h
    subst q
    rw [if_neg (by decide +kernel),if_pos (by decide +kernel),if_neg (by decide +kernel),if_pos rfl,bd8]
   ·have q:=ap0 h
    subst q
    rw [if_neg (by decide +kernel),if_neg (by decide +kernel),if_neg (by decide +kernel),if_neg (by decide +kernel),bC5]
  rw [U4]
  ·exact A1 ek
  ·intro g
   rcases hx with h | h | h
   ·rw [if_pos h];exact aJ0 _ _
   ·have q:=ap0 h
    subst q
    rw [if_neg (by decide +kernel),if_pos (by decide +kernel)];exact aD0 _ _ _
   ·have q:=ap0 h
    subst q
    rw [if_neg (by decide +kernel),if_neg (by decide +kernel)];exact aC9 _ _ _
theorem X8 (f:Nat)(l:List Glass)(x:Lex)(r:List Lex)(hb:¬ x.tok=.broken):glasses (f+1) l (x::r)=if isK (.w "glass") x.tok=true then (glass l >>= fun g=>glasses f (l++[g])) (x::r) else .ok (l,x::r):=by
 show (isWordNext "glass" >>= fun b=>if b=true then (glass l >>= fun g=>glasses f (l++[g])) else pure l) (x::r)=_
 rw [c8,x9,if_neg hb]
 dsimp only
 cases isK (.w "glass") x.tok<;>rfl
theorem af0 (gl:List Glass)(f:Nat)(l:List Elem)(x:Lex)(r:List Lex)(hb:¬ x.tok=.broken):elems gl (f+1) l (x::r)=if isK .fin x.tok=true then .ok (l,x::r) else (elem gl l >>= fun e=>elems gl f (l++[e])) (x::r):=by
 show (peek >>= fun x=>if x.tok=.end_ then pure l else (elem gl l >>= fun e=>elems gl f (l++[e]))) (x::r)=_
 rw [c8,A7,if_neg hb]
 dsimp only
 show _=if (x.tok == .end_)=true then _ else _
 by_cases h:x.tok=.end_
 ·rw [if_pos h,if_pos (by simpa using h)];rfl
 ·rw [if_neg h,if_neg (by simpa using h)]
theorem ba4 (gl:List Glass)(f:Nat)(l:List Elem)(x:Lex)(r:List Lex)(hb:¬ x.tok=.broken)(h:([K.w "surface",K.w "mirror",K.w "stop",K.fin].any fun k=>isK k x.tok)=false):elems gl (f+1) l (x::r)=.error (2,x.at_):=by
 simp only [List.any_cons,List.any_nil,Bool.or_eq_false_iff] at h
 rw [af0 gl f l x r hb,h.2.2.2.1,if_neg (by decide),c8]
 unfold elem
 rw [c8,A7,if_neg hb]
 dsimp only
 have e:(x.tok == .word (ascii "surface") || (x.tok == .word (ascii "mirror") || x.tok == .word (ascii "stop")))=false:=by
  have h1:(x.tok == .word (ascii "surface"))=false:=h.1
  have h2:(x.tok == .word (ascii "mirror"))=false:=h.2.1
  have h3:(x.tok == .word (ascii "stop"))=false:=h.2.2.1
  rw [h1,h2,h3];rfl
 rw [c8,C4,e]
 rfl
end Ma
namespace Ma
open Ln
theorem bL4:Num.isDigit=Text.isDigit:=by
 funext c
 unfold Num.isDigit Text.isDigit
 simp only [UInt8.le_iff_toNat_le]
 rfl
theorem bJ3:Num.number=Text.natural:=rfl
theorem ah5 {p:UInt8->Bool}:∀ (l:Bytes),l.drop (l.takeWhile p).length=[]↔l.all p=true
 | []=>by simp
 | a::l=>by
  cases h:p a with
  | true=>simp [List.takeWhile_cons,h,ah5 l]
  | false=>simp [List.takeWhile_cons,h]
theorem aK6 {p:UInt8->Bool}:∀ {l:Bytes},l.all p=true->l.takeWhile p=l
 | [],_=>rfl
 | a::l,h=>by
  simp only [List.all_cons,Bool.and_eq_true] at h
  rw [List.takeWhile_cons,h.1,if_pos rfl,aK6 h.2]
def x6 (s:Bytes):Option Rat :=
 let a:=s.takeWhile Text.isDigit
 if a=[] then none else match s.drop a.length with
  | []=>some ((Text.natural a:Nat):Rat)
  | c::back =>
   if back=[]\/back.all Text.isDigit=false then none
   else if c=46 then some (((Text.natural (a++back):Nat):Rat) / ((10 ^ back.length:Nat):Rat))
   else if c=47/\0 < Text.natural back then some (((Text.natural a:Nat):Rat) / ((Text.natural back:Nat):Rat))
   else none
def ae2:Except Nat (Rat×Bytes)->Option Rat
 | .error _=>none
 | .ok x=>if x.2=[] then some x.1 else none
theorem ak8 (p:Nat)(s:Bytes)(hs:s.length<=512):ae2 (Num.partAt p s)=x6 s:=by
 unfold Num.partAt x6
 rw [bL4,bJ3]
 dsimp only
 have hl:(s.takeWhile Text.isDigit).length<=s.length:=(List.takeWhile_prefix _).length_le
 by_cases h0:s.takeWhile Text.isDigit=[]
 ·rw [if_pos h0,if_pos h0];rfl
 ·rw [if_neg h0,if_neg h0,if_neg (by unfold Num.DIGITS;omega)]
  have hd:(s.drop (s.takeWhile Text.isDigit).length).length<=s.length:=by simp
  generalize s.drop (s.takeWhile Text.isDigit).length=r at hd
  generalize s.takeWhile Text.isDigit=a
  cases r with
  | nil=>rfl
  | cons c back =>
   have hb:back.length<=512:=by simp at hd;omega
   have ht:(back.takeWhile Text.isDigit).length<=back.length:=(List.takeWhile_prefix _).length_le
   have hD:¬ Num.DIGITS < (back.takeWhile Text.isDigit).length:=by unfold Num.DIGITS;omega
   dsimp only
   by_cases h1:c=46
   ·subst h1
    show ae2 (if back.takeWhile Text.isDigit=[] then _ else if Num.DIGITS < (back.takeWhile Text.isDigit).length then _ else _)=_
    rw [if_neg hD]
    by_cases h2:back.takeWhile Text.isDigit=[]
    ·rw [if_pos h2]
     have:back=[]\/back.all Text.isDigit=false:=by
      cases back with
      | nil=>exact .inl rfl
      | cons x y =>
       refine .inr ?_
       cases hx:Text.isDigit x with
       | true=>simp [List.takeWhile_cons,hx] at h2
       | false=>simp [hx]
     rw [if_pos this];rfl
    ·rw [if_neg h2]
     have hne:back≠[]:=by intro q;rw [q] at h2;exact h2 rfl
     cases ha:back.all Text.isDigit with
     | false =>
      have:¬ back.drop (back.takeWhile Text.isDigit).length=[]:=by rw [ah5,ha];decide
      rw [if_pos (Or.inr rfl)]
      show (if _=[] then _ else _)=_
      rw [if_neg this]
     | true =>
      rw [if_neg (by simp [hne]),if_pos rfl]
      show (if _=[] then _ else _)=_
      rw [if_pos ((ah5 back).mpr ha)]
      dsimp only
      rw [aK6 ha]
   ·by_cases h3:c=47
    ·subst h3
     show ae2 (if back.takeWhile Text.isDigit=[] then _ else if Num.DIGITS < (back.takeWhile Text.isDigit).length then _ else _)=_
     rw [if_neg hD]
     by_cases h2:back.takeWhile Text.isDigit=[]
     ·rw [if_pos h2]
      have:back=[]\/back.all Text.isDigit=false:=by
       cases back with
       | nil=>exact .inl rfl
       | cons x y =>
        refine .inr ?_
        cases hx:Text.isDigit x with
        | true=>simp [List.takeWhile_cons,hx] at h2
        | false=>simp [hx]
      rw [if_pos this];rfl
     ·rw [if_neg h2]
      have hne:back≠[]:=by intro q;rw [q] at h2;exact h2 rfl
      cases ha:back.all Text.isDigit with
      | false =>
       have:¬ back.drop (back.takeWhile Text.isDigit).length=[]:=by rw [ah5,ha];decide
       rw [if_pos (Or.inr rfl)]
       by_cases hz:Text.natural (back.takeWhile Text.isDigit)=0
       ·rw [if_pos hz];rfl
       ·rw [if_neg hz]
        show (if _=[] then _ else _)=_
        rw [if_neg this]
      | true =>
       have hor:¬ (back=[]\/true=false):=by simp [hne]
       rw [if_neg hor,if_neg h1,aK6 ha]
       by_cases hz:Text.natural back=0
       ·rw [if_pos hz,if_neg (by omega)];rfl
       ·rw [if_neg hz,if_pos ⟨rfl,by omega⟩]
        show (if _=[] then _ else _)=_
        rw [if_pos (by simp)]
    ·have e:(match (motive:=Bytes->Except Nat (Rat×Bytes)) c::back with
       | 46::t=>if t.takeWhile Text.isDigit=[] then .error (p+a.length+1) else if Num.DIGITS < (t.takeWhile Text.isDigit).length then .error (p+a.length+1+Num.DIGITS) else .ok (((Text.natural (a++t.takeWhile Text.isDigit):Nat):Rat) / ((10 ^ (t.takeWhile Text.isDigit).length:Nat):Rat),t.drop (t.takeWhile Text.isDigit).length)
       | 47::t=>if t.takeWhile Text.isDigit=[] then .error (p+a.length+1) else if Num.DIGITS < (t.takeWhile Text.isDigit).length then .error (p+a.length+1+Num.DIGITS) else if Text.natural (t.takeWhile Text.isDigit)=0 then .error (p+a.length+1) else .ok (((Text.natural a:Nat):Rat) / ((Text.natural (t.takeWhile Text.isDigit):Nat):Rat),t.drop (t.takeWhile Text.isDigit).length)
       | _=>.ok (((Text.natural a:Nat):Rat),c::back))=.ok (((Text.natural a:Nat):Rat),c::back):=by
      split
      ·rename_i q;simp only [List.cons.injEq] at q;exact absurd q.1 h1
      ·rename_i q;simp only [List.cons.injEq] at q;exact absurd q.1 h3
      ·rfl
     refine Eq.trans (congrArg ae2 e) ?_
     show (if c::back=[] then some ((Text.natural a:Nat):Rat) else none)=_
     rw [if_neg (by simp)]
     by_cases hh:back=[]\/back.all Text.isDigit=false
     ·rw [if_pos hh]
     ·rw [if_neg hh,if_neg h1,if_neg (by simp [h3])]
def V6 (s:Bytes):Option Rat:=match s with
 | 45::t=>(x6 t).map fun q=>-q
 | _=>x6 s
def y2 (s:Bytes):Option Rat:=if 512 < s.length then none else match V6 s with
 | some q=>if Num.fits q=true then some q else none
 | none=>none
theorem ba1 (s:Bytes):Num.numOf (some s)=y2 s:=by
 unfold y2
 show (if Num.LONG < s.length then none else match Num.readNum s with
  | .ok q=>if Num.fits q=true then some q else none
  | .error _=>none)=_
 by_cases hl:512 < s.length
 ·rw [if_pos (show Num.LONG < s.length from hl),if_pos hl]
 ·rw [if_neg (show ¬ Num.LONG < s.length from hl),if_neg hl]
  have key:(match Num.readNum s with
   | .ok q=>some q
   | .error _=>none)=V6 s:=by
   have hr:(match Num.readNum s with
    | .ok q=>some q
    | .error _=>none)=ae2 (Num.signedAt 0 s):=by
    unfold Num.readNum
    cases Num.signedAt 0 s with
    | error e=>rfl
    | ok x =>
     dsimp only [ae2]
     by_cases hx:x.2=[]
     ·rw [if_pos hx,if_pos hx]
     ·rw [if_neg hx,if_neg hx]
   rw [hr]
   unfold Num.signedAt V6
   split
   ·rename_i t
    have ht:t.length<=512:=by simp at hl;omega
    show _=Option.map _ (x6 t)
    rw [<-ak8 1 t ht]
    show ae2 ((Num.partAt (0+1) t).map _)=_
    cases Num.partAt (0+1) t with
    | error e=>rfl
    | ok x =>
     show (if x.2=[] then _ else _)=Option.map _ (if x.2=[] then _ else _)
     by_cases hx:x.2=[]
     ·rw [if_pos hx,if_pos hx];rfl
     ·rw [if_neg hx,if_neg hx];rfl
   ·rename_i hne
    refine Eq.trans (ak8 0 s (by omega)) ?_
    split
    ·rename_i t;exact absurd rfl (hne t)
    ·rfl
  rw [<-key]
  cases Num.readNum s with
  | error e=>rfl
  | ok q=>rfl
end Ma
namespace Ma
theorem bn1 (a b:Int)(hb:b≠0):a.fdiv (if b < 0 then -((Nat.gcd a.natAbs b.natAbs:Nat):Int) else ((Nat.gcd a.natAbs b.natAbs:Nat):Int))=((a:Rat) / (b:Rat)).num /\
  b.fdiv (if b < 0 then -((Nat.gcd a.natAbs b.natAbs:Nat):Int) else ((Nat.gcd a.natAbs b.natAbs:Nat):Int))=(((a:Rat) / (b:Rat)).den:Int):=by
 have hg:(0:Int) < ((Nat.gcd a.natAbs b.natAbs:Nat):Int):=by
  have:0 < Nat.gcd a.natAbs b.natAbs:=Nat.gcd_pos_of_pos_right _ (by omega)
  omega
 have da:((Nat.gcd a.natAbs b.natAbs:Nat):Int)∣a:=Int.ofNat_dvd_left.mpr (Nat.gcd_dvd_left _ _)
 have db:((Nat.gcd a.natAbs b.natAbs:Nat):Int)∣b:=Int.ofNat_dvd_left.mpr (Nat.gcd_dvd_right _ _)
 rw [<-Rat.divInt_eq_div,Rat.num_divInt,Rat.den_divInt,if_neg hb]
 have eg:((b.gcd a:Nat):Int)=((Nat.gcd a.natAbs b.natAbs:Nat):Int):=by
  show ((Nat.gcd b.natAbs a.natAbs:Nat):Int)=_;rw [Nat.gcd_comm]
 have eg':b.gcd a=Nat.gcd a.natAbs b.natAbs:=by exact_mod_cast eg
 rw [eg']
 generalize Nat.gcd a.natAbs b.natAbs=g at *
 obtain ⟨u,rfl⟩:=da
 obtain ⟨v,rfl⟩:=db
 have g0:(g:Int)≠0:=by omega
 by_cases h:(g:Int)*v < 0
 ·have hv:v < 0:=by
   rcases Int.lt_or_le v 0 with q | q
   ·exact q
   ·have:=Int.mul_nonneg (Int.le_of_lt hg) q;omega
  rw [if_pos h,Int.sign_eq_neg_one_of_neg h]
  constructor
  ·rw [show (g:Int)*u=(-(g:Int))*(-u) by rw [Int.neg_mul_neg],Int.mul_fdiv_cancel_left _ (by omega)]
   rw [show (-1:Int)*(-(g:Int)*-u)=(g:Int)*(-u) by rw [Int.neg_mul_neg,Int.neg_one_mul,Int.mul_neg],Int.mul_ediv_cancel_left _ g0]
  ·rw [show (g:Int)*v=(-(g:Int))*(-v) by rw [Int.neg_mul_neg],Int.mul_fdiv_cancel_left _ (by omega)]
   have:((-(g:Int)*-v).natAbs:Int)=(g:Int)*(-v):=by
    rw [Int.neg_mul_neg]
    have:(g:Int)*v=-((g:Int)*(-v)):=by rw [Int.mul_neg,Int.neg_neg]
    have h2:0<=(g:Int)*(-v):=Int.mul_nonneg (Int.le_of_lt hg) (by omega)
    omega
   have e2:(((-(g:Int)*-v).natAbs / g:Nat):Int)=-v:=by
    rw [Int.natCast_ediv,this,Int.mul_ediv_cancel_left _ g0]
   omega
 ·have hv:0 < v:=by
   rcases Int.lt_or_le 0 v with q | q
   ·exact q
   ·exfalso
    rcases Int.lt_or_le v 0 with q2 | q2
    ·have:=Int.mul_neg_of_pos_of_neg hg q2;omega
    ·have:v=0:=by omega
     subst this;simp at hb
  have hp:0 < (g:Int)*v:=Int.mul_pos hg hv
  rw [if_neg h,Int.sign_eq_one_of_pos hp,Int.one_mul,Int.mul_fdiv_cancel_left _ g0,Int.mul_ediv_cancel_left _ g0,Int.mul_fdiv_cancel_left _ g0]
  refine ⟨rfl,?_⟩
  have:(((g:Int)*v).natAbs:Int)=(g:Int)*v:=by omega
  rw [Int.natCast_ediv,this,Int.mul_ediv_cancel_left _ g0]
def Sz (n:Nat)(q:Rat):Prop:=q.num.natAbs < 2 ^ n/\q.den < 2 ^ n
theorem Sz.mono {n m:Nat}{q:Rat}(h:Sz n q)(le:n<=m):Sz m q :=
 ⟨Nat.lt_of_lt_of_le h.1 (Nat.pow_le_pow_right (by decide) le),Nat.lt_of_lt_of_le h.2 (Nat.pow_le_pow_right (by decide) le)⟩
theorem bv2 (a b:Int):((a:Rat) / (b:Rat)).num.natAbs<=a.natAbs:=by
 rw [<-Rat.divInt_eq_div,Rat.num_divInt]
 rw [Int.natAbs_ediv_of_dvd ?_]
 ·rw [Int.natAbs_mul]
  refine Nat.le_trans (Nat.div_le_self _ _) ?_
  have:b.sign.natAbs<=1:=by rw [Int.natAbs_sign];split<;>omega
  exact Nat.le_trans (Nat.mul_le_mul_right _ this) (by omega)
 ·exact Int.dvd_mul_of_dvd_right (Int.gcd_dvd_right ..)
theorem bL5 (a b:Int)(hb:b≠0):((a:Rat) / (b:Rat)).den<=b.natAbs:=by
 rw [<-Rat.divInt_eq_div,Rat.den_divInt,if_neg hb]
 exact Nat.div_le_self _ _
theorem Sz.div {n:Nat}{a b:Int}(ha:a.natAbs < 2 ^ n)(hb:b.natAbs < 2 ^ n)(h0:b≠0):Sz n ((a:Rat) / (b:Rat)) :=
 ⟨Nat.lt_of_le_of_lt (bv2 a b) ha,Nat.lt_of_le_of_lt (bL5 a b h0) hb⟩
theorem M7 {a b n m:Nat}(ha:a < 2 ^ n)(hb:b < 2 ^ m):a*b < 2 ^ (n+m):=by
 rw [Nat.pow_add]
 exact Nat.mul_lt_mul'' ha hb
theorem A3 (q:Rat):(q.den:Int)≠0:=by have:=q.den_pos;omega
theorem aa1 (q:Rat):q=(q.num:Rat) / ((q.den:Int):Rat):=by
 rw [<-Rat.divInt_eq_div];exact (Rat.num_divInt_den q).symm
theorem bk4 (p q:Rat):p*q=((p.num*q.num:Int):Rat) / ((p.den*q.den:Int):Rat):=by
 conv=>lhs;rw [aa1 p,aa1 q]
 have h1:((p.den:Int):Rat)≠0:=by exact_mod_cast A3 p
 have h2:((q.den:Int):Rat)≠0:=by exact_mod_cast A3 q
 rw [Rat.intCast_mul,Rat.intCast_mul]
 grind
theorem bo7 (p q:Rat):p+q=((p.num*q.den+q.num*p.den:Int):Rat) / ((p.den*q.den:Int):Rat):=by
 conv=>lhs;rw [aa1 p,aa1 q]
 have h1:((p.den:Int):Rat)≠0:=by exact_mod_cast A3 p
 have h2:((q.den:Int):Rat)≠0:=by exact_mod_cast A3 q
 rw [Rat.intCast_add,Rat.intCast_mul,Rat.intCast_mul,Rat.intCast_mul]
 grind
theorem aO6 (p q:Rat)(hq:q≠0):p / q=((p.num*q.den:Int):Rat) / ((p.den*q.num:Int):Rat):=by
 have h0:q.num≠0:=fun z=>hq (Rat.num_eq_zero.mp z)
 have h3:((q.num:Int):Rat)≠0:=by exact_mod_cast h0
 have h1:((p.den:Int):Rat)≠0:=by exact_mod_cast A3 p
 have h2:((q.den:Int):Rat)≠0:=by exact_mod_cast A3 q
 conv=>lhs;rw [aa1 p,aa1 q]
 rw [Rat.intCast_mul,Rat.intCast_mul]
 grind
theorem Sz.mul {n m:Nat}{p q:Rat}(hp:Sz n p)(hq:Sz m q):Sz (n+m) (p*q):=by
 rw [bk4]
 refine Sz.div ?_ ?_ ?_
 ·rw [Int.natAbs_mul];exact M7 hp.1 hq.1
 ·rw [Int.natAbs_mul];exact M7 hp.2 hq.2
 ·exact Int.mul_ne_zero (A3 p) (A3 q)
theorem Sz.add {n m:Nat}{p q:Rat}(hp:Sz n p)(hq:Sz m q):Sz (n+m+1) (p+q):=by
 rw [bo7]
 refine Sz.div ?_ ?_ ?_
 ·have h1:(p.num*(q.den:Int)).natAbs < 2 ^ (n+m):=by rw [Int.natAbs_mul];exact M7 hp.1 hq.2
  have h2:(q.num*(p.den:Int)).natAbs < 2 ^ (n+m):=by rw [Int.natAbs_mul,Nat.add_comm];exact M7 hq.1 hp.2
  rw [Nat.pow_succ]
  have:=Int.natAbs_add_le (p.num*(q.den:Int)) (q.num*(p.den:Int))
  omega
 ·rw [Int.natAbs_mul,Nat.pow_succ]
  have:(p.den:Int).natAbs*(q.den:Int).natAbs < 2 ^ (n+m):=M7 hp.2 hq.2
  omega
 ·exact Int.mul_ne_zero (A3 p) (A3 q)
theorem Sz.neg {n:Nat}{q:Rat}(h:Sz n q):Sz n (-q):=by
 unfold Sz at *
 rw [Rat.neg_num,Rat.neg_den,Int.natAbs_neg]
 exact h
theorem Sz.sub {n m:Nat}{p q:Rat}(hp:Sz n p)(hq:Sz m q):Sz (n+m+1) (p - q):=by
 rw [Rat.sub_eq_add_neg]
 exact hp.add hq.neg
theorem Sz.quo {n m:Nat}{p q:Rat}(hp:Sz n p)(hq:Sz m q)(h0:q≠0):Sz (n+m) (p / q):=by
 rw [aO6 p q h0]
 refine Sz.div ?_ ?_ ?_
 ·rw [Int.natAbs_mul];exact M7 hp.1 hq.2
 ·rw [Int.natAbs_mul];exact M7 hp.2 hq.1
 ·exact Int.mul_ne_zero (A3 p) fun z=>h0 (Rat.num_eq_zero.mp z)
end Ma
namespace Ma
open Ln
structure Stn where
 stop:Bool
 walk:Rat
 before:Rat
 behind:Rat
 square:Rat
 bend:Rat
 conic:Rat
 colour:Rat
def y3 (s:System_)(line i:Nat):Stn:=match (s.elem i).kind with
 | .halt_=>⟨true,s.gap i / s.index line i,0,0,0,0,0,0⟩
 | _ =>
  let n:=s.index line i
  let m:=s.index line (i+1)
  let g:=(s.elem i).curve
  ⟨false,s.gap i / n,n*g,m*g,1 / (m*m) - 1 / (n*n),g*(1 / m - 1 / n),(s.elem i).conic*(g*(g*g))*(m - n),spreads s line (i+1) - spreads s line i⟩
def P9 (t:Stn)(r:Near):Rat:=r.y+t.walk*r.v
def P1 (t:Stn)(r:Near):Rat:=r.v+t.before*P9 t r
def Y8 (t:Stn)(r:Near):Near:=⟨P9 t r,P1 t r - t.behind*P9 t r⟩
theorem bq2 (s:System_)(line i:Nat)(r:Near)(hi:s.index line i≠0):(stepOf s line i).on r=Y8 (y3 s line i) r:=by
 unfold stepOf bendOf y3 Y8 P1 P9
 cases (s.elem i).kind with
 | halt_ =>
  simp only [Mat.on,Mat.times,one,transfer]
  congr 1<;>grind
 | mirror =>
  simp only [Mat.on,Mat.times,bend,transfer]
  congr 1<;>grind
 | surface g =>
  simp only [Mat.on,Mat.times,bend,transfer]
  congr 1<;>grind
theorem bj1 (m n:Mat)(r:Near):(m.times n).on r=m.on (n.on r):=by
 simp only [Mat.on,Mat.times]
 congr 1<;>grind
theorem bj0 (r:Near):one.on r=r:=by
 obtain ⟨y,v⟩:=r
 simp only [Mat.on,one]
 congr 1<;>grind
theorem aN3 (s:System_)(line i:Nat)(r:Near):(matTo s line (i+1)).on r=(stepOf s line i).on ((matTo s line i).on r):=bj1 _ _ _
theorem bl5 (t:Stn)(p q:Near):lagrange (Y8 t p) (Y8 t q)=lagrange p q:=by
 simp only [lagrange,Y8,P1,P9]
 grind
def aG3 (t : Stn) (y a z b : Rat) : Sums :=
  ⟨a * a * (y * (t.bend * y - t.square * a)) + t.conic * y * y * (y * y),
   a * b * (y * (t.bend * y - t.square * a)) + t.conic * y * y * (y * z),
   b * b * (y * (t.bend * y - t.square * a)) + t.conic * y * y * (z * z),
   -t.bend * (a * z - b * y) * (a * z - b * y),
   b * (t.bend * z * (2 * b * y - a * z) - t.square * y * (b * b)) + t.conic * y * z * (z * z),
   a * (t.colour * y),
   b * (t.colour * y)⟩
def Y3 (t:Stn)(p q:Near):Option Sums :=
 if t.stop=true then some Sums.none else if P1 t p=0 then none else some (aG3 t (P9 t p) (P1 t p) (P9 t q) (P1 t q))
theorem aX6 (n m g kk sp0 sp1 gp y0 v0 z0 w0 l:Rat)(hn:n≠0)(hm:m≠0)(hl:l=v0*z0 - w0*y0) :
  let y:=1*y0+gp / n*v0
  let h:=1*z0+gp / n*w0
  let uv:=0*y0+1*v0
  let wv:=0*z0+1*w0
  let a:=uv+n*g*y
  let b:=wv+n*g*h
  let v':=-(g*(m - n))*y+1*uv
  let one:=-(a*a*y*(v' / (m*m) - uv / (n*n)))
  let r:=b / a
  let four:=-(l*l*g*(1 / m - 1 / n))
  let k:=kk*(g*g*g)*(m - n)
  let colour:=y*(sp1 - sp0)
  let t:Stn:=⟨false,gp / n,n*g,m*g,1 / (m*m) - 1 / (n*n),g*(1 / m - 1 / n),kk*(g*(g*g))*(m - n),sp1 - sp0⟩
  a≠0 ->
  (⟨one+k*(y*y*y*y),r*one+k*(y*y*y*h),r*r*one+k*(y*y*h*h),four,r*(r*r*one+four)+k*(y*h*h*h),a*colour,b*colour⟩:Sums)=aG3 t y a h b:=by
 intro y h uv wv a b v' one r four k colour t ha
 have e1:one=a*a*(y*(t.bend*y - t.square*a)):=by
  have q1:v'=a - m*g*y:=by grind
  have q2:uv=a - n*g*y:=by grind
  show -(a*a*y*(v' / (m*m) - uv / (n*n)))=a*a*(y*((g*(1 / m - 1 / n))*y - (1 / (m*m) - 1 / (n*n))*a))
  rw [q1,q2]
  clear_value a y
  grind
 have e4:l=a*h - b*y:=by
  show l=(uv+n*g*y)*h - (wv+n*g*h)*y
  rw [hl]
  grind
 have e5:four=-t.bend*(a*h - b*y)*(a*h - b*y):=by
  show -(l*l*g*(1 / m - 1 / n))=-(g*(1 / m - 1 / n))*(a*h - b*y)*(a*h - b*y)
  rw [e4];grind
 have e6:k=t.conic:=by
  show kk*(g*g*g)*(m - n)=kk*(g*(g*g))*(m - n)
  grind
 have e7:colour=t.colour*y:=by
  show y*(sp1 - sp0)=(sp1 - sp0)*y
  grind
 have hr:r*a=b:=by
  show b / a*a=b
  clear_value a b
  grind
 rw [e1,e5,e6,e7]
 unfold aG3
 generalize t.bend=B
 generalize t.square=S
 generalize t.conic=C
 generalize t.colour=E
 clear_value r a b y h
 clear e1 e4 e5 e6 e7 t
 subst hr
 congr 1<;>grind
theorem bs8 (s:System_)(line:Nat)(m c:Near)(i:Nat)(p q:Near)(hn:s.index line i≠0)(hm:s.index line (i+1)≠0)(hl:lagrange p q=lagrange m c):partBy s line m c i p q=Y3 (y3 s line i) p q:=by
 have key:∀ (kd:Kind),kd≠.halt_->(s.elem i).kind=kd->partBy s line m c i p q=Y3 (y3 s line i) p q:=fun kd hk e=>by
  have e1:bendOf s line i=bend (s.elem i).curve (s.index line i) (s.index line (i+1)):=by unfold bendOf;rw [e];cases kd<;>first | rfl | exact absurd rfl hk
  have e2:y3 s line i=⟨false,s.gap i / s.index line i,s.index line i*(s.elem i).curve,s.index line (i+1)*(s.elem i).curve,1 / (s.index line (i+1)*s.index line (i+1)) - 1 / (s.index line i*s.index line i),(s.elem i).curve*(1 / s.index line (i+1) - 1 / s.index line i),(s.elem i).conic*((s.elem i).curve*((s.elem i).curve*(s.elem i).curve))*(s.index line (i+1) - s.index line i),spreads s line (i+1) - spreads s line i⟩:=by unfold y3;rw [e];cases kd<;>first | rfl | exact absurd rfl hk
  have e3:partBy s line m c i p q=(
   let n:=s.index line i
   let n':=s.index line (i+1)
   let g:=(s.elem i).curve
   let u:=(transfer (s.gap i) n).on p
   let w:=(transfer (s.gap i) n).on q
   let a:=u.v+n*g*u.y
   let b:=w.v+n*g*w.y
   if a=0 then none else
    let y:=u.y
    let h:=w.y
    let one:=-(a*a*y*(((bendOf s line i).on u).v / (n'*n') - u.v / (n*n)))
    let r:=b / a
    let l:=lagrange m c
    let four:=-(l*l*g*(1 / n' - 1 / n))
    let k:=(s.elem i).conic*(g*g*g)*(n' - n)
    let colour:=y*(spreads s line (i+1) - spreads s line i)
    some ⟨one+k*(y*y*y*y),r*one+k*(y*y*y*h),r*r*one+k*(y*y*h*h),four,r*(r*r*one+four)+k*(y*h*h*h),a*colour,b*colour⟩):=by
   unfold partBy;rw [e];cases kd<;>first | rfl | exact absurd rfl hk
  rw [e3,e2]
  unfold Y3
  rw [if_neg (show ¬ (false=true) by decide)]
  have hy:P9 ⟨false,s.gap i / s.index line i,s.index line i*(s.elem i).curve,s.index line (i+1)*(s.elem i).curve,1 / (s.index line (i+1)*s.index line (i+1)) - 1 / (s.index line i*s.index line i),(s.elem i).curve*(1 / s.index line (i+1) - 1 / s.index line i),(s.elem i).conic*((s.elem i).curve*((s.elem i).curve*(s.elem i).curve))*(s.index line (i+1) - s.index line i),spreads s line (i+1) - spreads s line i⟩ p=((transfer (s.gap i) (s.index line i)).on p).y:=by
   simp only [P9,transfer,Mat.on];grind
  have hz:P9 ⟨false,s.gap i / s.index line i,s.index line i*(s.elem i).curve,s.index line (i+1)*(s.elem i).curve,1 / (s.index line (i+1)*s.index line (i+1)) - 1 / (s.index line i*s.index line i),(s.elem i).curve*(1 / s.index line (i+1) - 1 / s.index line i),(s.elem i).conic*((s.elem i).curve*((s.elem i).curve*(s.elem i).curve))*(s.index line (i+1) - s.index line i),spreads s line (i+1) - spreads s line i⟩ q=((transfer (s.gap i) (s.index line i)).on q).y:=by
   simp only [P9,transfer,Mat.on];grind
  have pv:((transfer (s.gap i) (s.index line i)).on p).v=p.v:=by simp only [transfer,Mat.on];grind
  have qv:((transfer (s.gap i) (s.index line i)).on q).v=q.v:=by simp only [transfer,Mat.on];grind
  have ha:P1 ⟨false,s.gap i / s.index line i,s.index line i*(s.elem i).curve,s.index line (i+1)*(s.elem i).curve,1 / (s.index line (i+1)*s.index line (i+1)) - 1 / (s.index line i*s.index line i),(s.elem i).curve*(1 / s.index line (i+1) - 1 / s.index line i),(s.elem i).conic*((s.elem i).curve*((s.elem i).curve*(s.elem i).curve))*(s.index line (i+1) - s.index line i),spreads s line (i+1) - spreads s line i⟩ p=((transfer (s.gap i) (s.index line i)).on p).v+s.index line i*(s.elem i).curve*((transfer (s.gap i) (s.index line i)).on p).y:=by
   unfold P1;rw [hy,pv]
  have hb:P1 ⟨false,s.gap i / s.index line i,s.index line i*(s.elem i).curve,s.index line (i+1)*(s.elem i).curve,1 / (s.index line (i+1)*s.index line (i+1)) - 1 / (s.index line i*s.index line i),(s.elem i).curve*(1 / s.index line (i+1) - 1 / s.index line i),(s.elem i).conic*((s.elem i).curve*((s.elem i).curve*(s.elem i).curve))*(s.index line (i+1) - s.index line i),spreads s line (i+1) - spreads s line i⟩ q=((transfer (s.gap i) (s.index line i)).on q).v+s.index line i*(s.elem i).curve*((transfer (s.gap i) (s.index line i)).on q).y:=by
   unfold P1;rw [hz,qv]
  dsimp only
  rw [ha,hb,hy,hz]
  by_cases h0:((transfer (s.gap i) (s.index line i)).on p).v+s.index line i*(s.elem i).curve*((transfer (s.gap i) (s.index line i)).on p).y=0
  ·rw [if_pos h0,if_pos h0]
  ·rw [if_neg h0,if_neg h0]
   refine congrArg some ?_
   rw [e1]
   exact aX6 (s.index line i) (s.index line (i+1)) (s.elem i).curve (s.elem i).conic (spreads s line i) (spreads s line (i+1)) (s.gap i) p.y p.v q.y q.v (lagrange m c) hn hm (by rw [<-hl];rfl) h0
 cases hk:(s.elem i).kind with
 | halt_ =>
  have e1:partBy s line m c i p q=some Sums.none:=by unfold partBy;rw [hk]
  have e2:(y3 s line i).stop=true:=by unfold y3;rw [hk]
  rw [e1]
  unfold Y3
  rw [if_pos e2]
 | mirror=>exact key _ (by simp) hk
 | surface g=>exact key _ (by simp) hk
end Ma
namespace Ma
open Ln
def rem (ts:List Stn):Int:=ts.foldr (fun t n=>t.walk.den*t.before.den*t.behind.den*n) 1
def B0:List Stn->Int->Int->List (Int×Int)
 | [],_,_=>[]
 | t::ts,h,a =>
  let h1:=h+t.walk.num*a / t.walk.den
  let c:=a+t.before.num*h1 / t.before.den
  (h1,c)::B0 ts h1 (c - t.behind.num*h1 / t.behind.den)
def Y4:List Stn->Int->Int->Int×Int
 | [],h,a=>(h,a)
 | t::ts,h,a =>
  let h1:=h+t.walk.num*a / t.walk.den
  let c:=a+t.before.num*h1 / t.before.den
  Y4 ts h1 (c - t.behind.num*h1 / t.behind.den)
def M8:List Stn->Near->List (Rat×Rat)
 | [],_=>[]
 | t::ts,r=>(P9 t r,P1 t r)::M8 ts (Y8 t r)
def D1:List Stn->Near->Near
 | [],r=>r
 | t::ts,r=>D1 ts (Y8 t r)
theorem as9 {n d x:Int}{q:Rat}(hn:n=q.num)(hd:d=(q.den:Int))(h:d∣x):((n*x / d:Int):Rat)=q*(x:Rat)/\∀ e:Int,d*e∣x->e∣n*x / d:=by
 have d0:d≠0:=by rw [hd];exact A3 q
 obtain ⟨k,rfl⟩:=h
 have e1:n*(d*k) / d=n*k:=by
  rw [show n*(d*k)=d*(n*k) by rw [<-Int.mul_assoc,Int.mul_comm n d,Int.mul_assoc],Int.mul_ediv_cancel_left _ d0]
 rw [e1]
 refine ⟨?_,fun e he=>?_⟩
 ·have h2:((d:Int):Rat)≠0:=by exact_mod_cast d0
  have eq:q=(n:Rat) / (d:Rat):=by rw [hn,hd];exact aa1 q
  rw [Rat.intCast_mul,Rat.intCast_mul,eq]
  grind
 ·exact Int.dvd_mul_of_dvd_right (Int.dvd_of_mul_dvd_mul_left d0 he)
theorem bv5 (t:Stn)(ts:List Stn)(N:Rat)(h a:Int)(r:Near)(hh:rem (t::ts)∣h)(ha:rem (t::ts)∣a)(eh:(h:Rat)=N*r.y)(ea:(a:Rat)=N*r.v) :
  let h1:=h+t.walk.num*a / t.walk.den
  let c:=a+t.before.num*h1 / t.before.den
  let b:=c - t.behind.num*h1 / t.behind.den
  (h1:Rat)=N*P9 t r/\(c:Rat)=N*P1 t r/\(b:Rat)=N*(Y8 t r).v/\rem ts∣h1/\rem ts∣b:=by
 intro h1 c b
 have er:rem (t::ts)=t.walk.den*t.before.den*t.behind.den*rem ts:=rfl
 rw [er] at hh ha
 generalize hR:rem ts=R at *
 have da:(t.walk.den:Int)∣a:=Int.dvd_trans ⟨t.before.den*t.behind.den*R,by simp only [Int.mul_assoc]⟩ ha
 obtain ⟨w1,w2⟩:=as9 (n:=t.walk.num) (d:=t.walk.den) rfl rfl da
 have d1:t.before.den*t.behind.den*R∣t.walk.num*a / t.walk.den:=w2 _ (by rw [<-Int.mul_assoc,<-Int.mul_assoc];exact ha)
 have dh:t.before.den*t.behind.den*R∣h1:=Int.dvd_add (Int.dvd_trans ⟨t.walk.den,by grind⟩ hh) d1
 have db:(t.before.den:Int)∣h1:=Int.dvd_trans ⟨t.behind.den*R,by simp only [Int.mul_assoc]⟩ dh
 obtain ⟨b1,b2⟩:=as9 (n:=t.before.num) (d:=t.before.den) rfl rfl db
 have d2:t.behind.den*R∣t.before.num*h1 / t.before.den:=b2 _ (by rw [<-Int.mul_assoc];exact dh)
 have dc:(t.behind.den:Int)∣h1:=Int.dvd_trans ⟨t.before.den*R,by rw [Int.mul_comm (t.before.den:Int) t.behind.den];simp only [Int.mul_assoc]⟩ dh
 obtain ⟨c1,c2⟩:=as9 (n:=t.behind.num) (d:=t.behind.den) rfl rfl dc
 have d3:R∣t.behind.num*h1 / t.behind.den:=c2 _ (Int.dvd_trans ⟨t.before.den,by rw [Int.mul_comm _ (t.before.den:Int)];simp only [Int.mul_assoc]⟩ dh)
 have e1:(h1:Rat)=N*P9 t r:=by
  show ((h+t.walk.num*a / t.walk.den:Int):Rat)=_
  rw [Rat.intCast_add,w1,eh,ea];unfold P9;grind
 have e2:(c:Rat)=N*P1 t r:=by
  show ((a+t.before.num*h1 / t.before.den:Int):Rat)=_
  rw [Rat.intCast_add,b1,e1,ea];unfold P1;grind
 have e3:(b:Rat)=N*(Y8 t r).v:=by
  show ((c - t.behind.num*h1 / t.behind.den:Int):Rat)=_
  rw [Rat.intCast_sub,c1,e1,e2];unfold Y8;grind
 refine ⟨e1,e2,e3,Int.dvd_trans ⟨t.before.den*t.behind.den,by rw [Int.mul_comm]⟩ dh,?_⟩
 refine Int.dvd_sub (Int.dvd_add ?_ (Int.dvd_trans ⟨t.behind.den,by rw [Int.mul_comm]⟩ d2)) d3
 exact Int.dvd_trans ⟨t.walk.den*t.before.den*t.behind.den,by rw [Int.mul_comm]⟩ ha
theorem ay1:∀ (ts:List Stn) (N:Rat) (h a:Int) (r:Near),rem ts∣h->rem ts∣a->(h:Rat)=N*r.y->(a:Rat)=N*r.v ->
  (B0 ts h a).map (fun p=>((p.1:Rat),(p.2:Rat)))=(M8 ts r).map fun p=>(N*p.1,N*p.2)
 | [],_,_,_,_,_,_,_,_=>rfl
 | t::ts,N,h,a,r,hh,ha,eh,ea=>by
  obtain ⟨e1,e2,e3,d1,d2⟩:=bv5 t ts N h a r hh ha eh ea
  have ih:=ay1 ts N _ _ (Y8 t r) d1 d2 e1 e3
  simp only [B0,M8,List.map_cons]
  rw [ih,e1,e2]
def ag7 (l:List Nat):Nat:=l.foldl (fun m s=>m*(s / Nat.gcd m s)) 1
theorem aH8 (m s:Nat):m*(s / Nat.gcd m s)=Nat.lcm m s:=by
 unfold Nat.lcm
 rw [Nat.mul_div_assoc _ (Nat.gcd_dvd_right m s)]
theorem aI1:∀ (l:List Nat) (m:Nat),m∣l.foldl (fun m s=>m*(s / Nat.gcd m s)) m/\∀ x∈l,x∣l.foldl (fun m s=>m*(s / Nat.gcd m s)) m
 | [],m=>⟨Nat.dvd_refl _,fun x h=>absurd h (by simp)⟩
 | s::l,m=>by
  obtain ⟨h1,h2⟩:=aI1 l (m*(s / Nat.gcd m s))
  rw [List.foldl_cons]
  refine ⟨Nat.dvd_trans ⟨_,rfl⟩ h1,fun x hx=>?_⟩
  rcases List.mem_cons.mp hx with rfl | hx
  ·refine Nat.dvd_trans ?_ h1
   rw [aH8]
   exact Nat.dvd_lcm_right _ _
  ·exact h2 x hx
theorem bl1 {l:List Nat}{x:Nat}(h:x∈l):x∣ag7 l:=(aI1 l 1).2 x h
theorem aI0:∀ (l:List Nat) (m:Nat),0 < m->(∀ x∈l,0 < x)->0 < l.foldl (fun m s=>m*(s / Nat.gcd m s)) m
 | [],m,hm,_=>hm
 | s::l,m,hm,hl=>by
  rw [List.foldl_cons]
  refine aI0 l _ ?_ fun x hx=>hl x (List.mem_cons_of_mem _ hx)
  rw [aH8]
  exact Nat.lcm_pos hm (hl s (List.mem_cons_self ..))
theorem aH9 {l:List Nat}(h:∀ x∈l,0 < x):0 < ag7 l:=aI0 l 1 (by decide) h
theorem aC5:∀ (l:List Nat) (m n k:Nat),m < 2 ^ n->(∀ x∈l,x < 2 ^ k)->l.foldl (fun m s=>m*(s / Nat.gcd m s)) m < 2 ^ (n+l.length*k)
 | [],m,n,k,hm,_=>by simpa using hm
 | s::l,m,n,k,hm,hl=>by
  rw [List.foldl_cons]
  have h1:m*(s / Nat.gcd m s) < 2 ^ (n+k):=M7 hm (Nat.lt_of_le_of_lt (Nat.div_le_self _ _) (hl s (List.mem_cons_self ..)))
  have:=aC5 l _ (n+k) k h1 fun x hx=>hl x (List.mem_cons_of_mem _ hx)
  rw [List.length_cons,Nat.add_mul,Nat.one_mul]
  rw [show n+(l.length*k+k)=n+k+l.length*k by omega]
  exact this
def C7 (t:Stn):Nat:=ag7 [t.square.den,t.bend.den,t.conic.den,t.colour.den]
theorem aR1 (t:Stn):0 < C7 t:=aH9 fun x hx=>by
 simp only [List.mem_cons,List.not_mem_nil,or_false] at hx
 rcases hx with rfl | rfl | rfl | rfl<;>exact Rat.den_pos _
def onI (q:Rat)(s:Int):Int:=q.num*(s / q.den)
theorem aG5 {q:Rat}{s:Int}(h:(q.den:Int)∣s):((onI q s:Int):Rat)=q*(s:Rat):=by
 obtain ⟨k,rfl⟩:=h
 unfold onI
 have d0:(q.den:Int)≠0:=A3 q
 rw [Int.mul_ediv_cancel_left _ d0]
 have h2:(((q.den:Int)):Rat)≠0:=by exact_mod_cast d0
 have eq:=aa1 q
 rw [Rat.intCast_mul,Rat.intCast_mul]
 generalize hn:(q.num:Rat)=n at *
 generalize hd:(((q.den:Int)):Rat)=d at *
 rw [eq]
 grind
def an7 (t : Stn) (y a z b : Int) : List Int :=
  let s : Int := C7 t
  let sq := onI t.square s
  let bd := onI t.bend s
  let cn := onI t.conic s * y
  let cl := onI t.colour s * y
  let core := y * (bd * y - sq * a)
  let iv := a * z - b * y
  [a * a * core + cn * y * (y * y), a * b * core + cn * y * (y * z), b * b * core + cn * y * (z * z), -bd * iv * iv,
   b * (bd * z * (2 * b * y - a * z) - sq * y * (b * b)) + cn * z * (z * z), a * cl, b * cl]
def aX1 (l:List Int):List Rat:=l.map fun (x:Int)=>(x:Rat)
def Z7 (x:Sums):List Rat:=[x.s1,x.s2,x.s3,x.s4,x.s5,x.c1,x.c2]
def aj2 (f g:Rat)(x:Sums):List Rat:=[f*x.s1,f*x.s2,f*x.s3,f*x.s4,f*x.s5,g*x.c1,g*x.c2]
theorem aW4 (t:Stn)(N y a z b:Rat)(yi ai zi bi:Int)(hy:(yi:Rat)=N*y)(ha:(ai:Rat)=N*a)(hz:(zi:Rat)=N*z)(hb:(bi:Rat)=N*b) :
  aX1 (an7 t yi ai zi bi)=aj2 (N*N*(N*N)*(C7 t:Rat)) (N*N*(C7 t:Rat)) (aG3 t y a z b):=by
 have dv:∀ q∈[t.square,t.bend,t.conic,t.colour],(q.den:Int)∣((C7 t:Nat):Int):=fun q hq=>by
  refine Int.natCast_dvd_natCast.mpr (bl1 ?_)
  simp only [List.mem_cons,List.not_mem_nil,or_false] at hq ⊢
  rcases hq with rfl | rfl | rfl | rfl<;>simp
 have e1:=aG5 (dv t.square (by simp))
 have e2:=aG5 (dv t.bend (by simp))
 have e3:=aG5 (dv t.conic (by simp))
 have e4:=aG5 (dv t.colour (by simp))
 have es:(((C7 t:Nat):Int):Rat)=(C7 t:Rat):=rfl
 rw [es] at e1 e2 e3 e4
 unfold an7 aX1 aj2 aG3
 simp only [List.map_cons,List.map_nil,Rat.intCast_add,Rat.intCast_mul,Rat.intCast_sub,Rat.intCast_neg,e1,e2,e3,e4,hy,ha,hz,hb]
 have e5:(((2:Int)):Rat)=2:=rfl
 rw [e5]
 generalize (C7 t:Rat)=S
 generalize t.square=A
 generalize t.bend=B
 generalize t.conic=C
 generalize t.colour=E
 clear dv e1 e2 e3 e4 es e5 hy ha hz hb
 congr 1
 ·grind
 congr 1
 ·grind
 congr 1
 ·grind
 congr 1
 ·grind
 congr 1
 ·grind
 congr 1
 ·grind
 congr 1
 ·grind
end Ma
namespace Ma
open Ln
def j9 (s:System_)(line i k:Nat):List Stn:=(List.range' i k).map (y3 s line)
def ac9 (s:System_)(line:Nat):List Stn:=j9 s line 0 s.count
theorem ae6 (s:System_)(line:Nat)(hn:∀ i,s.index line i≠0)(r:Near):∀ (k i:Nat),(matTo s line (i+k)).on r=D1 (j9 s line i k) ((matTo s line i).on r)
 | 0,i=>rfl
 | k+1,i=>by
  have e:j9 s line i (k+1)=y3 s line i::j9 s line (i+1) k:=by
   unfold j9;rw [List.range'_succ];rfl
  rw [e]
  have ih:=ae6 s line hn r k (i+1)
  rw [show i+(k+1)=i+1+k by omega,ih]
  show _=D1 _ (Y8 (y3 s line i) _)
  rw [<-bq2 s line i _ (hn i),aN3]
theorem aX7 (s:System_)(line:Nat)(m c:Near)(hn:∀ i,s.index line i≠0)(i:Nat):partOf s line m c i=Y3 (y3 s line i) (D1 (j9 s line 0 i) m) (D1 (j9 s line 0 i) c):=by
 unfold partOf
 have h1:=ae6 s line hn m i 0
 have h2:=ae6 s line hn c i 0
 rw [Nat.zero_add] at h1 h2
 have e1:(matTo s line 0).on m=m:=bj0 m
 have e2:(matTo s line 0).on c=c:=bj0 c
 rw [e1] at h1
 rw [e2] at h2
 rw [h1,h2]
 refine bs8 s line m c i _ _ (hn i) (hn (i+1)) ?_
 have:∀ (ts:List Stn) (p q:Near),lagrange (D1 ts p) (D1 ts q)=lagrange p q:=by
  intro ts
  induction ts with
  | nil=>intro p q;rfl
  | cons t ts ih=>intro p q;exact (ih _ _).trans (bl5 t p q)
 exact this _ _ _
def ag2 (t:Stn)(m c:Int×Int):Option (List Int):=if t.stop=true then some [0,0,0,0,0,0,0] else if m.2=0 then none else some (an7 t m.1 m.2 c.1 c.2)
theorem bi7 (t:Stn)(N:Rat)(hN:N≠0)(p q:Near)(mi ci:Int×Int)(h1:(mi.1:Rat)=N*P9 t p)(h2:(mi.2:Rat)=N*P1 t p)(h3:(ci.1:Rat)=N*P9 t q)(h4:(ci.2:Rat)=N*P1 t q) :
  (ag2 t mi ci).map aX1=(Y3 t p q).map fun x=>aj2 (N*N*(N*N)*(C7 t:Rat)) (N*N*(C7 t:Rat)) x:=by
 unfold ag2 Y3
 by_cases hs:t.stop=true
 ·rw [if_pos hs,if_pos hs]
  simp only [Option.map_some,aj2,Sums.none,aX1,List.map_cons,List.map_nil]
  have e0:(((0:Int)):Rat)=0:=rfl
  rw [e0]
  simp only [Rat.mul_zero]
 ·rw [if_neg hs,if_neg hs]
  by_cases ha:P1 t p=0
  ·have:mi.2=0:=by
    rw [ha,Rat.mul_zero] at h2
    exact_mod_cast h2
   rw [if_pos ha,if_pos this];rfl
  ·have:¬ mi.2=0:=by
    intro z
    rw [z] at h2
    have h2':(0:Rat)=N*P1 t p:=h2
    rcases Rat.mul_eq_zero.mp h2'.symm with q | q
    ·exact hN q
    ·exact ha q
   rw [if_neg ha,if_neg this]
   exact congrArg some (aW4 t N _ _ _ _ _ _ _ _ h1 h2 h3 h4)
theorem bO0 {l:List Int}{r1 r2 r3 r4 r5 r6 r7:Rat}(h:(l.map fun (x:Int)=>(x:Rat))=[r1,r2,r3,r4,r5,r6,r7]):∃ a1 a2 a3 a4 a5 a6 a7:Int,l=[a1,a2,a3,a4,a5,a6,a7]/\(a1:Rat)=r1/\(a2:Rat)=r2/\(a3:Rat)=r3/\(a4:Rat)=r4/\(a5:Rat)=r5/\(a6:Rat)=r6/\(a7:Rat)=r7:=by
 have hl:l.length=7:=by simpa using congrArg List.length h
 match l,hl with
 | [a1,a2,a3,a4,a5,a6,a7],_ =>
  simp only [List.map_cons,List.map_nil,List.cons.injEq,and_true] at h
  exact ⟨a1,a2,a3,a4,a5,a6,a7,rfl,h⟩
end Ma
namespace Ma
open Ln
def am8 (n:Nat):List Nat:=(Nat.toDigits 10 n).map Char.toNat
theorem bS0:∀ d:Nat,d < 10->(Nat.digitChar d).toNat=48+d:=by decide
theorem by0 {n:Nat}(h:n < 10):am8 n=[48+n]:=by
 unfold am8
 rw [Nat.toDigits_of_lt_base h]
 show [(Nat.digitChar n).toNat]=_
 rw [bS0 n h]
theorem ba5 {n:Nat}(h:10<=n):am8 n=am8 (n / 10)++[48+n % 10]:=by
 have hm:n % 10 < 10:=Nat.mod_lt n (by decide)
 have t:Nat.toDigits 10 (n / 10)++Nat.toDigits 10 (n % 10)=Nat.toDigits 10 (10*(n / 10)+n % 10):=Nat.toDigits_append_toDigits (by decide) (by omega) hm
 rw [Nat.div_add_mod] at t
 show (Nat.toDigits 10 n).map Char.toNat=_
 rw [<-t,List.map_append,Nat.toDigits_of_lt_base hm]
 show (Nat.toDigits 10 (n / 10)).map Char.toNat++[(Nat.digitChar (n % 10)).toNat]=_
 rw [bS0 _ hm]<;>rfl
def Q9 (b:Bytes):List Nat:=b.map fun (c:UInt8)=>c.toNat
theorem by5 {m:Nat}(h:m < 256):(UInt8.ofNat m).toNat=m:=by
 rw [UInt8.toNat_ofNat']
 exact Nat.mod_eq_of_lt h
theorem am3:∀ (k n:Nat),n < 2 ^ k->0 < k->Q9 (Num.digitsIn k n)=am8 n
 | 0,_,_,h=>absurd h (by decide)
 | k+1,n,h,_=>by
  show Q9 ((if n < 10 then [] else Num.digitsIn k (n / 10))++[UInt8.ofNat (48+n % 10)])=_
  unfold Q9
  rw [List.map_append]
  show _++[(UInt8.ofNat (48+n % 10)).toNat]=_
  rw [by5 (by omega)]
  by_cases h1:n < 10
  ·rw [if_pos h1,by0 h1,Nat.mod_eq_of_lt h1];rfl
  ·rw [if_neg h1,ba5 (by omega)]
   have h2:n / 10 < 2 ^ k:=by rw [Nat.pow_succ] at h;omega
   have h3:0 < k:=by
    cases k with
    | zero=>simp at h2;omega
    | succ=>omega
   have ih:=am3 k (n / 10) h2 h3
   unfold Q9 at ih
   rw [ih]
theorem at2 (n:Nat):Q9 (Num.decimal n)=am8 n:=am3 _ _ Nat.lt_log2_self (Nat.succ_pos _)
def au6 (i:Int):List Nat:=(if i < 0 then [45] else [])++am8 i.natAbs
def J5 (q:Rat):List Nat:=if q.den=1 then au6 q.num else au6 q.num++(47::am8 q.den)
theorem aJ3 (q:Rat):Q9 (Num.exactText q)=J5 q:=by
 unfold Num.exactText J5 au6 Q9
 have hs:(q < 0)=(q.num < 0):=by
  refine propext ⟨fun h=>?_,fun h=>?_⟩
  ·rcases Int.lt_or_le q.num 0 with z | z
   ·exact z
   ·have:=Rat.num_nonneg.mp z;grind
  ·have:¬ 0<=q:=fun z=>by have:=Rat.num_nonneg.mpr z;omega
   exact Rat.not_le.mp this
 simp only [hs,List.map_append]
 have e1:(Num.decimal q.num.natAbs).map (fun (c:UInt8)=>c.toNat)=am8 q.num.natAbs:=at2 _
 have e2:(Num.decimal q.den).map (fun (c:UInt8)=>c.toNat)=am8 q.den:=at2 _
 rw [e1]
 have e3:(ascii "-").map (fun (c:UInt8)=>c.toNat)=[45]:=by decide +kernel
 have e4:(ascii "/").map (fun (c:UInt8)=>c.toNat)=[47]:=by decide +kernel
 by_cases h:q.num < 0
 ·simp only [h,if_true,e3]
  by_cases h2:q.den=1
  ·simp [h2]
  ·simp only [h2,if_false,List.map_append,e4,e2];simp
 ·simp only [h,if_false]
  by_cases h2:q.den=1
  ·simp [h2]
  ·simp only [h2,if_false,List.map_append,e4,e2];simp
def U8:List (List Nat)->List Nat
 | []=>[]
 | [x]=>x
 | x::y::r=>x++32::U8 (y::r)
theorem aS4:∀ l:List Rat,Q9 (Num.listText l)=U8 (l.map J5)
 | []=>rfl
 | [q]=>aJ3 q
 | q::p::r=>by
  have ih:=aS4 (p::r)
  show Q9 (Num.exactText q++(32::Num.listText (p::r)))=J5 q++32::U8 ((p::r).map J5)
  rw [<-ih,<-aJ3 q]
  unfold Q9
  rw [List.map_append]
  rfl
def E8 (l:List Rat):List Int:=if l.all Num.tellable=false then [-6] else ((U8 (l.map J5)).length:Int)::(U8 (l.map J5)).map fun (n:Nat)=>(n:Int)
theorem bm8 (l:List Rat):LensDNeutral.shown (LensD.gives l)=E8 l:=by
 unfold LensD.gives E8
 by_cases h:l.all Num.tellable=false
 ·rw [if_pos h,if_pos h];rfl
 ·rw [if_neg h,if_neg h]
  have e:=aS4 l
  show ((Num.listText l).length:Int)::([]++(Num.listText l).map fun (c:UInt8)=>(c.toNat:Int))=_
  rw [<-e]
  unfold Q9
  rw [List.length_map,List.map_map]
  rfl
end Ma
namespace Ma
open Ln
def T7 (l:List Rat):Int:=l.foldl (fun n q=>n*(q.den:Int)) 1
def aH4 (ts:List Stn)(n:Int):Int:=ts.foldl (fun n t=>n*(t.walk.den*t.before.den*t.behind.den)) n
theorem ag6:∀ (ts:List Stn) (n:Int),aH4 ts n=n*rem ts
 | [],n=>(Int.mul_one n).symm
 | t::ts,n=>by
  show aH4 ts (n*(t.walk.den*t.before.den*t.behind.den))=_
  rw [ag6 ts,Int.mul_assoc];rfl
theorem U6:∀ (l:List Rat) (n:Int),l.foldl (fun n q=>n*(q.den:Int)) n=n*T7 l
 | [],n=>(Int.mul_one n).symm
 | q::l,n=>by
  unfold T7
  rw [List.foldl_cons,List.foldl_cons,U6 l,U6 l,Int.one_mul,Int.mul_assoc]
theorem aH6:∀ (l:List Rat) (q:Rat),q∈l->(q.den:Int)∣T7 l
 | [],q,h=>absurd h (by simp)
 | p::l,q,h=>by
  have e:T7 (p::l)=p.den*T7 l:=by
   unfold T7
   rw [List.foldl_cons,U6 l,Int.one_mul];rfl
  rw [e]
  rcases List.mem_cons.mp h with rfl | h
  ·exact ⟨_,rfl⟩
  ·exact Int.dvd_trans (aH6 l q h) ⟨p.den,Int.mul_comm _ _⟩
theorem aR7:∀ ts:List Stn,0 < rem ts
 | []=>by decide
 | t::ts=>by
  have h:=aR7 ts
  have d:∀ q:Rat,(0:Int) < (q.den:Int):=fun q=>by have:=q.den_pos;omega
  exact Int.mul_pos (Int.mul_pos (Int.mul_pos (d _) (d _)) (d _)) h
theorem aH5:∀ l:List Rat,0 < T7 l
 | []=>by decide
 | q::l=>by
  have e:T7 (q::l)=q.den*T7 l:=by
   unfold T7
   rw [List.foldl_cons,U6 l,Int.one_mul];rfl
  rw [e]
  have:=q.den_pos
  exact Int.mul_pos (by omega) (aH5 l)
def K7 (ts:List Stn)(rays:List Rat):Int:=aH4 ts (T7 rays)
theorem aH7 (ts:List Stn)(rays:List Rat):0 < K7 ts rays:=by
 unfold K7;rw [ag6];exact Int.mul_pos (aH5 _) (aR7 _)
theorem aG4 (ts:List Stn)(rays:List Rat)(q:Rat)(h:q∈rays):rem ts∣onI q (K7 ts rays)/\((onI q (K7 ts rays):Int):Rat)=(K7 ts rays:Rat)*q:=by
 obtain ⟨k,hk⟩:=aH6 rays q h
 have e:K7 ts rays=q.den*(k*rem ts):=by unfold K7;rw [ag6,hk,Int.mul_assoc]
 refine ⟨?_,?_⟩
 ·unfold onI
  rw [e,Int.mul_ediv_cancel_left _ (A3 q)]
  exact Int.dvd_mul_of_dvd_right ⟨k,Int.mul_comm _ _⟩
 ·rw [aG5 ⟨_,e⟩,Rat.mul_comm]
def ak5 (N s:Int):List Int:=[N*N*(N*N)*s,N*N*(N*N)*s,N*N*(N*N)*s,N*N*(N*N)*s,N*N*(N*N)*s,N*N*s,N*N*s]
def al7 (ts:List Stn)(N:Int)(y v z w:Rat):List ((Int×Int)×(Int×Int)):=(B0 ts (onI y N) (onI v N)).zip (B0 ts (onI z N) (onI w N))
def p9 (l:List (Int×Int)):List Rat:=l.map fun p=>(p.1:Rat) / (p.2:Rat)
theorem bB5 {a:Rat}(h:a≠0)(q:Rat):a*q / a=q:=by grind
theorem P0 {a b:Rat}(h:a≠0)(h':b≠0):a*b≠0:=fun z=>(Rat.mul_eq_zero.mp z).elim h h'
theorem aF4 {tot:List Int}{N s:Int}{x:Sums}(hN:N≠0)(hs:s≠0)(h:aX1 tot=aj2 ((N:Rat)*N*(N*N)*(s:Rat)) ((N:Rat)*N*(s:Rat)) x):p9 (tot.zip (ak5 N s))=Z7 x:=by
 obtain ⟨a1,a2,a3,a4,a5,a6,a7,rfl,t1,t2,t3,t4,t5,t6,t7⟩:=bO0 (l:=tot) h
 have hN':(N:Rat)≠0:=by exact_mod_cast hN
 have hs':(s:Rat)≠0:=by exact_mod_cast hs
 unfold p9 ak5 Z7
 simp only [List.zip_cons_cons,List.zip_nil_right,List.map_cons,List.map_nil,Rat.intCast_mul,t1,t2,t3,t4,t5,t6,t7]
 have e:∀ q:Rat,(N:Rat)*N*(N*N)*(s:Rat)*q / ((N:Rat)*N*(N*N)*(s:Rat))=q:=bB5 (P0 (P0 (P0 hN' hN') (P0 hN' hN')) hs')
 have e2:∀ q:Rat,(N:Rat)*N*(s:Rat)*q / ((N:Rat)*N*(s:Rat))=q:=bB5 (P0 (P0 hN' hN') hs')
 simp only [e,e2]
def B (n:Nat)(x:Int):Prop:=x.natAbs < 2 ^ n
theorem B.mono {n m:Nat}{x:Int}(h:B n x)(le:n<=m):B m x:=Nat.lt_of_lt_of_le h (Nat.pow_le_pow_right (by decide) le)
theorem B.mul {n m:Nat}{x y:Int}(h:B n x)(h':B m y):B (n+m) (x*y):=by
 unfold B at *;rw [Int.natAbs_mul];exact M7 h h'
theorem B.add {n:Nat}{x y:Int}(h:B n x)(h':B n y):B (n+1) (x+y):=by
 unfold B at *
 rw [Nat.pow_succ]
 have:=Int.natAbs_add_le x y
 omega
theorem B.neg {n:Nat}{x:Int}(h:B n x):B n (-x):=by unfold B at *;rw [Int.natAbs_neg];exact h
theorem B.sub {n:Nat}{x y:Int}(h:B n x)(h':B n y):B (n+1) (x - y):=by
 rw [Int.sub_eq_add_neg];exact h.add h'.neg
theorem B.div {n:Nat}{x:Int}{d:Nat}(h:B n x):B n (x / (d:Int)):=by
 unfold B at *
 cases d with
 | zero=>simp;exact Nat.pow_pos (by decide)
 | succ d =>
  have h1:(x / ((d+1:Nat):Int)).natAbs<=x.natAbs:=Int.natAbs_ediv_le_natAbs ..
  omega
theorem B.one:B 1 1:=by unfold B;decide
theorem Sz.num {n:Nat}{q:Rat}(h:Sz n q):B n q.num:=h.1
theorem Sz.den {n:Nat}{q:Rat}(h:Sz n q):B n (q.den:Int):=h.2
structure A4 (t:Stn):Prop where
 walk:Sz 130 t.walk
 before:Sz 130 t.before
 behind:Sz 130 t.behind
 square:Sz 400 t.square
 bend:Sz 400 t.bend
 conic:Sz 400 t.conic
 colour:Sz 400 t.colour
theorem bh4:∀ (ts:List Stn),(∀ t∈ts,A4 t)->B (1+390*ts.length) (rem ts)
 | [],_=>B.one
 | t::ts,h=>by
  have ih:=bh4 ts fun u hu=>h u (List.mem_cons_of_mem _ hu)
  have o:=h t (List.mem_cons_self ..)
  have:B (130+130+130+(1+390*ts.length)) (rem (t::ts)):=((o.walk.den.mul o.before.den).mul o.behind.den).mul ih
  refine this.mono ?_
  rw [List.length_cons];omega
theorem aC3:∀ (l:List Rat) (n:Nat),(∀ q∈l,Sz n q)->B (1+n*l.length) (T7 l)
 | [],_,_=>B.one
 | q::l,n,h=>by
  have e:T7 (q::l)=q.den*T7 l:=by
   unfold T7
   rw [List.foldl_cons,U6 l,Int.one_mul];rfl
  rw [e]
  have ih:=aC3 l n fun u hu=>h u (List.mem_cons_of_mem _ hu)
  have:=(h q (List.mem_cons_self ..)).den.mul ih
  refine this.mono ?_
  rw [List.length_cons,Nat.mul_add];omega
theorem bJ5 (ts:List Stn)(rays:List Rat)(n:Nat)(h:∀ t∈ts,A4 t)(hr:∀ q∈rays,Sz n q):B (2+n*rays.length+390*ts.length) (K7 ts rays):=by
 unfold K7
 rw [ag6]
 refine ((aC3 rays n hr).mul (bh4 ts h)).mono ?_
 omega
theorem bg2 (t:Stn)(h:A4 t):C7 t < 2 ^ 1601:=by
 have:=aC5 [t.square.den,t.bend.den,t.conic.den,t.colour.den] 1 1 400 (by decide) fun x hx=>by
  simp only [List.mem_cons,List.not_mem_nil,or_false] at hx
  rcases hx with rfl | rfl | rfl | rfl
  ·exact h.square.2
  ·exact h.bend.2
  ·exact h.conic.2
  ·exact h.colour.2
 exact this
theorem bk7 {t:Stn}(o:A4 t){n:Nat}{h a:Int}(hh:B n h)(ha:B n a) :
  let h1:=h+t.walk.num*a / t.walk.den
  let c:=a+t.before.num*h1 / t.before.den
  let b:=c - t.behind.num*h1 / t.behind.den
  B (n+131) h1/\B (n+262) c/\B (n+263) b:=by
 intro h1 c b
 have e1:B (n+131) h1:=((hh.mono (by omega)).add ((o.walk.num.mul ha).div.mono (Nat.le_of_eq (Nat.add_comm 130 n)))).mono (by omega)
 have e2:B (n+262) c:=((ha.mono (by omega)).add ((o.before.num.mul e1).div (d:=t.before.den))).mono (by omega)
 refine ⟨e1,e2,?_⟩
 exact (e2.sub (((o.behind.num.mul e1).div (d:=t.behind.den)).mono (by omega))).mono (by omega)
end Ma
namespace Ma
open Ln Ln.Text
theorem V4 {p:UInt8->Bool}:∀ (l:Bytes),l.take (l.takeWhile p).length=l.takeWhile p
 | []=>rfl
 | a::l=>by
  cases h:p a with
  | true=>simp [List.takeWhile_cons,h,V4 l]
  | false=>simp [List.takeWhile_cons,h]
theorem K2 {p:UInt8->Bool}:∀ (l:Bytes),(l.takeWhile p).all p=true
 | []=>rfl
 | a::l=>by
  cases h:p a with
  | true=>simp only [List.takeWhile_cons,h,if_true,List.all_cons,K2 l];rfl
  | false=>simp [List.takeWhile_cons,h]
theorem aV6 {c:Bytes}{n k:Nat}{pt:Bool}(h:(tokenIn c).1=.num n k pt):tokenIn c=numberIn c:=by
 cases c with
 | nil=>simp [tokenIn] at h
 | cons x r =>
  by_cases h1:isLetter x=true
  ·simp only [tokenIn,h1,if_true] at h
   split at h
   ·cases h
   ·split at h<;>cases h
  ·by_cases h2:isDigit x=true
   ·simp only [tokenIn,h1,h2,if_true];rfl
   ·by_cases h3:isMark x=true
    ·simp [tokenIn,h1,h2,h3] at h
    ·simp [tokenIn,h1,h2,h3] at h
theorem bj9 {c:Bytes}{n k:Nat}{pt:Bool}(h:(tokenIn c).1=.num n k pt):nOk c/\n=natural (nA c++nZ c)/\k=(nZ c).length/\pt=nP c/\(tokenIn c).2=nN c:=by
 have e:=aV6 h
 rw [e] at h ⊢
 rw [D0] at h ⊢
 by_cases ho:nOk c
 ·rw [if_pos ho] at h ⊢
  cases h
  exact ⟨ho,rfl,rfl,rfl,rfl⟩
 ·rw [if_neg ho] at h;cases h
theorem aF8 {c:Bytes}{n k:Nat}(h:(tokenIn c).1=.num n k false):(c.take (tokenIn c).2).all isDigit=true/\natural (c.take (tokenIn c).2)=n/\(c.take (tokenIn c).2).length<=18:=by
 obtain ⟨ho,hn,hk,hp,hl⟩:=bj9 h
 have e1:nN c=(nA c).length:=by simp only [nN,<-hp];simp
 have e2:nZ c=[]:=by simp only [nZ,<-hp];simp
 rw [hl,e1,V4]
 refine ⟨K2 c,?_,?_⟩
 ·rw [hn,e2,List.append_nil]
 ·have:=ho.2.1
  unfold DIGITS at this
  have t:(nA c).length=(c.takeWhile isDigit).length:=rfl
  omega
theorem au2 {c:Bytes}{n k:Nat}(h:(tokenIn c).1=.num n k true):∃ a z:Bytes,c.take (tokenIn c).2=a++46::z/\a.all isDigit=true/\z.all isDigit=true/\natural (a++z)=n/\z.length=k/\a.length+z.length<=18:=by
 obtain ⟨ho,hn,hk,hp,hl⟩:=bj9 h
 have hp':nP c=true:=hp.symm
 have e1:nN c=(nA c).length+(1+(nZ c).length):=by simp only [nN,hp',if_true]
 have e2:nZ c=((nR c).drop 1).takeWhile isDigit:=by simp only [nZ,hp',if_true]
 refine ⟨nA c,nZ c,?_,K2 c,by rw [e2];exact K2 _,hn.symm,hk.symm,?_⟩
 ·rw [hl,e1]
  have hr:∃ r,nR c=46::r:=by
   have q:(nR c).head?=some 46:=eq_of_beq hp'
   cases z:nR c with
   | nil=>rw [z] at q;cases q
   | cons x r=>rw [z] at q;cases q;exact ⟨r,rfl⟩
  obtain ⟨r,hr⟩:=hr
  have hc:nA c++nR c=c:=by
   have:=List.take_append_drop (nA c).length c
   rw [V4] at this
   exact this
  have ez:nZ c=r.takeWhile isDigit:=by rw [e2,hr];rfl
  have key:∀ (a z c:Bytes) (r:Bytes),a++46::r=c->z=r.takeWhile isDigit->c.take (a.length+(1+z.length))=a++46::z:=fun a z c r h1 h2=>by
   rw [<-h1,List.take_append,List.take_of_length_le (by omega),show a.length+(1+z.length) - a.length=z.length+1 by omega,List.take_succ_cons,h2,V4]
  exact key _ _ _ r (by rw [<-hr];exact hc) ez
 ·have:=ho.2.1
  unfold DIGITS at this
  exact this
theorem aM7 {c w:Bytes}(h:(tokenIn c).1=.name w):c.take (tokenIn c).2=w/\WORDS.contains w=false:=by
 cases c with
 | nil=>simp [tokenIn] at h
 | cons x r =>
  by_cases h1:isLetter x=true
  ·simp only [tokenIn,h1,if_true] at h ⊢
   split at h
   ·cases h
   ·rename_i hn
    rw [if_neg hn]
    split at h
    ·cases h
    ·rename_i hw
     rw [if_neg hw]
     cases h
     exact ⟨V4 _,by simpa using hw⟩
  ·by_cases h2:isDigit x=true
   ·simp only [tokenIn,h1,h2,if_true] at h
    rw [if_neg (by decide)] at h
    rw [D0] at h
    split at h<;>cases h
   ·by_cases h3:isMark x=true
    ·simp [tokenIn,h1,h2,h3] at h
    ·simp [tokenIn,h1,h2,h3] at h
def P5:Tok->Prop
 | .word w=>w∈WORDS
 | .mark c=>isMark c=true
 | _=>True
theorem bC3 (c:Bytes):P5 (tokenIn c).1:=by
 cases c with
 | nil=>exact True.intro
 | cons x r =>
  by_cases h1:isLetter x=true
  ·simp only [tokenIn,h1,if_true]
   split
   ·exact True.intro
   ·split
    ·rename_i hw
     exact List.contains_iff_mem.mp hw
    ·exact True.intro
  ·by_cases h2:isDigit x=true
   ·simp only [tokenIn,h1,h2,if_true]
    rw [if_neg (by decide),D0]
    split<;>exact True.intro
   ·by_cases h3:isMark x=true
    ·simp only [tokenIn,h1,h2,h3,if_true]
     exact h3
    ·simp only [tokenIn,h1,h2,h3]
     exact True.intro
theorem bk2:∀ (l:Bytes) (a:Nat),l.all isDigit=true->l.foldl (fun (n:Nat) (c:UInt8)=>10*n+(c.toNat - 48)) a < 10 ^ l.length*(a+1)
 | [],a,_=>by simp
 | c::l,a,h=>by
  simp only [List.all_cons,Bool.and_eq_true] at h
  rw [List.foldl_cons]
  have hc:c.toNat<=57:=by
   have:=h.1
   unfold isDigit at this
   simp only [Bool.and_eq_true,decide_eq_true_eq,UInt8.le_iff_toNat_le] at this
   exact this.2
  have:=bk2 l (10*a+(c.toNat - 48)) h.2
  refine Nat.lt_of_lt_of_le this ?_
  rw [List.length_cons,Nat.pow_succ,Nat.mul_assoc]
  exact Nat.mul_le_mul_left _ (by omega)
theorem aN2 {l:Bytes}(h:l.all isDigit=true):natural l < 10 ^ l.length:=by
 have:=bk2 l 0 h
 rw [Nat.zero_add,Nat.mul_one] at this
 exact this
theorem aw9 {l:Bytes}(h:l.all isDigit=true)(hl:l.length<=18):natural l < 2 ^ 60 :=
 Nat.lt_of_lt_of_le (aN2 h) (Nat.le_trans (Nat.pow_le_pow_right (by decide) hl) (by decide))
theorem aK9 {n:Nat}(h:n < 2 ^ 60):Sz 60 (n:Rat):=by
 have:=Sz.div (n:=60) (a:=(n:Int)) (b:=1) h (by decide) (by decide)
 have e:(((n:Int):Rat) / ((1:Int):Rat))=(n:Rat):=by
  rw [show (((1:Int)):Rat)=1 from rfl]
  have:((n:Int):Rat)=(n:Rat):=rfl
  grind
 rw [e] at this
 exact this
theorem be6 {n m:Nat}(h:n < 2 ^ 60)(h':m < 2 ^ 60)(h0:m≠0):Sz 60 ((n:Rat) / (m:Rat)) :=
 Sz.div (n:=60) (a:=(n:Int)) (b:=(m:Int)) h h' (by omega)
end Ma
namespace Ma
open Ln
def triple (s:System_)(g:Nat):List Rat:=(s.glasses.map fun (x:Glass)=>x.index).getD g []
def P6 (gl:List Glass):Prop:=∀ g∈gl,g.index.length=3/\∀ q∈g.index,1<=q/\Sz 60 q
theorem ao8 {s:System_}(h:P6 s.glasses)(g:Nat):triple s g=[]\/((triple s g).length=3/\∀ q∈triple s g,1<=q/\Sz 60 q):=by
 unfold triple
 rw [List.getD_eq_getElem?_getD]
 cases e:(s.glasses.map fun (x:Glass)=>x.index)[g]? with
 | none=>exact .inl rfl
 | some l =>
  have m:=List.mem_of_getElem? e
  obtain ⟨x,hx,rfl⟩:=List.mem_map.mp m
  exact .inr (h x hx)
theorem bK5 {s:System_}(h:P6 s.glasses)(g line:Nat):1<=s.glassIndex g line:=by
 show 1<=(triple s g).getD line 1
 rw [List.getD_eq_getElem?_getD]
 cases e:(triple s g)[line]? with
 | none=>exact Rat.le_refl
 | some q =>
  rcases ao8 h g with z | z
  ·rw [z] at e;simp at e
  ·exact (z.2 q (List.mem_of_getElem? e)).1
theorem aC1 (s:System_)(i:Nat)(hi:i < s.count):s.mirrors (i+1)=s.mirrors i+(if (s.elem i).kind=.mirror then 1 else 0):=by
 unfold System_.mirrors System_.elem
 have e:s.elems[i]?=some (s.elems.getD i noElem):=by
  rw [List.getD_eq_getElem?_getD]
  have:i < s.elems.length:=hi
  rw [List.getElem?_eq_getElem this];rfl
 rw [List.take_add_one,e]
 simp only [Option.toList,List.filter_append,List.length_append]
 generalize s.elems.getD i noElem=x
 by_cases hk:x.kind=.mirror
 ·rw [if_pos hk,List.filter_cons,if_pos (by rw [hk];rfl)];rfl
 ·rw [if_neg hk,List.filter_cons,if_neg (by simpa using hk)];rfl
theorem bq6 (s:System_)(i:Nat):s.sign i≠0:=by
 unfold System_.sign
 split<;>decide
theorem aI7 {s:System_}(h:P6 s.glasses)(line i:Nat):s.index line i≠0:=by
 unfold System_.index
 have h1:=bK5 h (s.medium i) line
 refine P0 (bq6 s i) ?_
 intro z
 rw [z] at h1
 exact absurd h1 (by decide)
theorem aQ9 (s:System_)(i:Nat):s.sign i=1\/s.sign i=-1:=by
 unfold System_.sign
 split
 ·exact .inl rfl
 ·exact .inr rfl
theorem aP8 (s:System_)(line i:Nat)(h:s.glassIndex (s.medium i) line≠0):s.gap i / s.index line i=(s.elem i).gap / s.glassIndex (s.medium i) line:=by
 unfold System_.gap System_.index
 rcases aQ9 s i with e | e<;>rw [e]<;>grind
def back (s:System_)(i:Nat):Bool:=s.mirrors i % 2 == 1
theorem aW3 (s:System_)(i:Nat):s.sign i=if back s i=true then -1 else 1:=by
 unfold System_.sign back
 have:s.mirrors i % 2=0\/s.mirrors i % 2=1:=by omega
 rcases this with h | h<;>rw [h]<;>rfl
theorem ae7 (s:System_)(line i:Nat):s.index line i=if back s i=true then -s.glassIndex (s.medium i) line else s.glassIndex (s.medium i) line:=by
 unfold System_.index
 rw [aW3]
 cases back s i
 ·rw [if_neg (by decide),if_neg (by decide)];grind
 ·rw [if_pos rfl,if_pos rfl];grind
theorem bb1 (s:System_)(i:Nat)(hi:i < s.count):back s (i+1)=if (s.elem i).kind=.mirror then !back s i else back s i:=by
 unfold back
 rw [aC1 s i hi]
 by_cases h:(s.elem i).kind=.mirror
 ·simp only [h,if_true]
  have:s.mirrors i % 2=0\/s.mirrors i % 2=1:=by omega
  rcases this with z | z
  ·rw [show (s.mirrors i+1) % 2=1 by omega,z];rfl
  ·rw [show (s.mirrors i+1) % 2=0 by omega,z];rfl
 ·simp [h]
theorem al8 (s:System_)(i:Nat):s.medium (i+1)=match (s.elem i).kind with
  | .surface g=>g
  | _=>s.medium i:=rfl
theorem F6 (s:System_)(line i:Nat)(h:s.glassIndex (s.medium i) line≠0):spreads s line i=(s.glassIndex (s.medium i) 1 - s.glassIndex (s.medium i) 2) / s.glassIndex (s.medium i) line:=by
 unfold spreads System_.index
 rcases aQ9 s i with e | e<;>rw [e]<;>grind
end Ma
namespace Ma
open Ln (Near Sums)
theorem ah0 (t:Stn):∀ (ts:List Stn) (r:Near),M8 (ts++[t]) r=M8 ts r++[(P9 t (D1 ts r),P1 t (D1 ts r))]
 | [],_=>rfl
 | u::ts,r=>by
  show (P9 u r,P1 u r)::M8 (ts++[t]) (Y8 u r)=(P9 u r,P1 u r)::(M8 ts (Y8 u r)++[(P9 t (D1 ts (Y8 u r)),P1 t (D1 ts (Y8 u r)))])
  rw [ah0 t ts (Y8 u r)]
end Ma
namespace Ma
open Ln (Near Sums)
theorem ab0:∀ (ts:List Stn) (r:Near),(M8 ts r).length=ts.length
 | [],_=>rfl
 | t::ts,r=>by show (M8 ts (Y8 t r)).length+1=_;rw [ab0 ts];rfl
theorem bk6 (ts0:List Stn)(t:Stn)(rays:List Rat)(y v:Rat)(hy:y∈rays)(hv:v∈rays):∃ p:Int×Int,(B0 (ts0++[t]) (onI y (K7 (ts0++[t]) rays)) (onI v (K7 (ts0++[t]) rays)))[ts0.length]?=some p/\(p.1:Rat)=(K7 (ts0++[t]) rays:Rat)*P9 t (D1 ts0 ⟨y,v⟩)/\(p.2:Rat)=(K7 (ts0++[t]) rays:Rat)*P1 t (D1 ts0 ⟨y,v⟩):=by
 obtain ⟨d1,q1⟩:=aG4 (ts0++[t]) rays y hy
 obtain ⟨d2,q2⟩:=aG4 (ts0++[t]) rays v hv
 have key:=ay1 (ts0++[t]) (K7 (ts0++[t]) rays:Rat) _ _ ⟨y,v⟩ d1 d2 q1 q2
 rw [ah0,List.map_append] at key
 have k2:=congrArg (fun l=>l[ts0.length]?) key
 rw [List.getElem?_map,List.getElem?_append_right (by rw [List.length_map,ab0];exact Nat.le_refl _),List.length_map,ab0,Nat.sub_self] at k2
 cases hF:(B0 (ts0++[t]) (onI y (K7 (ts0++[t]) rays)) (onI v (K7 (ts0++[t]) rays)))[ts0.length]? with
 | none=>rw [hF] at k2;cases k2
 | some p =>
  rw [hF] at k2
  have k3:=Option.some.inj k2
  simp only [Prod.mk.injEq] at k3
  exact ⟨p,rfl,k3.1,k3.2⟩
theorem bq5 (ts0:List Stn)(t:Stn)(y v z u:Rat):∃ mc,(al7 (ts0++[t]) (K7 (ts0++[t]) [y,v,z,u]) y v z u)[ts0.length]?=some mc /\
  ((ag2 t mc.1 mc.2).map fun l=>p9 (l.zip (ak5 (K7 (ts0++[t]) [y,v,z,u]) ((C7 t:Nat):Int))))=(Y3 t (D1 ts0 ⟨y,v⟩) (D1 ts0 ⟨z,u⟩)).map Z7:=by
 obtain ⟨mi,h1,m1,m2⟩:=bk6 ts0 t [y,v,z,u] y v (by simp) (by simp)
 obtain ⟨ci,h2,c1,c2⟩:=bk6 ts0 t [y,v,z,u] z u (by simp) (by simp)
 have hN:=aH7 (ts0++[t]) [y,v,z,u]
 unfold al7
 generalize K7 (ts0++[t]) [y,v,z,u]=N at *
 refine ⟨(mi,ci),?_,?_⟩
 ·rw [List.getElem?_zip_eq_some];exact ⟨h1,h2⟩
 have hN0:(N:Rat)≠0:=fun e=>by
  have:N=0:=by exact_mod_cast e
  omega
 have hp:=bi7 t (N:Rat) hN0 _ _ mi ci m1 m2 c1 c2
 dsimp only
 cases hI:ag2 t mi ci with
 | none =>
  rw [hI] at hp
  cases hO:Y3 t (D1 ts0 ⟨y,v⟩) (D1 ts0 ⟨z,u⟩) with
  | none=>rfl
  | some x=>rw [hO] at hp;cases hp
 | some l =>
  rw [hI] at hp
  cases hO:Y3 t (D1 ts0 ⟨y,v⟩) (D1 ts0 ⟨z,u⟩) with
  | none=>rw [hO] at hp;cases hp
  | some x =>
   rw [hO] at hp
   have hp:aX1 l=aj2 ((N:Rat)*N*(N*N)*(C7 t:Rat)) ((N:Rat)*N*(C7 t:Rat)) x:=Option.some.inj hp
   have s0:((C7 t:Nat):Int)≠0:=by have:=aR1 t;omega
   exact congrArg some (aF4 (by omega) s0 hp)
end Ma
namespace L2
theorem j7 {P:A->Prop}(a)(h:P a):∃ a,P a:=⟨a,h⟩
theorem a0 {P Q:A->Prop}(a)(h:P a)(i:Q a):∃ a,P a/\Q a:=⟨a,h,i⟩
theorem d8 {P Q R:A->Prop}(a)(h:P a)(i:Q a)(j:R a):∃ a,P a/\Q a/\R a:=⟨a,h,i,j⟩
theorem I0 {P Q R S:A->Prop}(a)(h:P a)(i:Q a)(j:R a)(k:S a):∃ a,P a/\Q a/\R a/\S a:=⟨a,h,i,j,k⟩
theorem Z3 {P:A->B->Prop}(a b)(h:P a b):∃ a b,P a b:=⟨a,b,h⟩
theorem L8 {P Q:A->B->Prop}(a b)(h:P a b)(i:Q a b):∃ a b,P a b/\Q a b:=⟨a,b,h,i⟩
theorem g6 {P Q R:A->B->Prop}(a b)(h:P a b)(i:Q a b)(j:R a b):∃ a b,P a b/\Q a b/\R a b:=⟨a,b,h,i,j⟩
theorem i5 {P Q R S:A->B->Prop}(a b)(h:P a b)(i:Q a b)(j:R a b)(k:S a b):∃ a b,P a b/\Q a b/\R a b/\S a b:=⟨a,b,h,i,j,k⟩
theorem C6 {P Q R S T:A->B->Prop}(a b)(h:P a b)(i:Q a b)(j:R a b)(k:S a b)(l:T a b):∃ a b,P a b/\Q a b/\R a b/\S a b/\T a b:=⟨a,b,h,i,j,k,l⟩
theorem G0 {P:A->B->C->Prop}(a b c)(h:P a b c):∃ a b c,P a b c:=⟨a,b,c,h⟩
theorem Z2 {P Q R:A->B->C->Prop}(a b c)(h:P a b c)(i:Q a b c)(j:R a b c):∃ a b c,P a b c/\Q a b c/\R a b c:=⟨a,b,c,h,i,j⟩
theorem j4 {P Q R S:A->B->C->Prop}(a b c)(h:P a b c)(i:Q a b c)(j:R a b c)(k:S a b c):∃ a b c,P a b c/\Q a b c/\R a b c/\S a b c:=⟨a,b,c,h,i,j,k⟩
theorem u0 {P Q R S T:A->B->C->Prop}(a b c)(h:P a b c)(i:Q a b c)(j:R a b c)(k:S a b c)(l:T a b c):∃ a b c,P a b c/\Q a b c/\R a b c/\S a b c/\T a b c:=⟨a,b,c,h,i,j,k,l⟩
theorem R3 {P:A->B->C->D->Prop}(a b c d)(h:P a b c d):∃ a b c d,P a b c d:=⟨a,b,c,d,h⟩
theorem l7 {P Q R S:A->B->C->D->Prop}(a b c d)(h:P a b c d)(i:Q a b c d)(j:R a b c d)(k:S a b c d):∃ a b c d,P a b c d/\Q a b c d/\R a b c d/\S a b c d:=⟨a,b,c,d,h,i,j,k⟩
theorem j0 {P Q R S T:A->B->C->D->Prop}(a b c d)(h:P a b c d)(i:Q a b c d)(j:R a b c d)(k:S a b c d)(l:T a b c d):∃ a b c d,P a b c d/\Q a b c d/\R a b c d/\S a b c d/\T a b c d:=⟨a,b,c,d,h,i,j,k,l⟩
theorem l0 {P Q R S T U:A->B->C->D->Prop}(a b c d)(h:P a b c d)(i:Q a b c d)(j:R a b c d)(k:S a b c d)(l:T a b c d)(m:U a b c d):∃ a b c d,P a b c d/\Q a b c d/\R a b c d/\S a b c d/\T a b c d/\U a b c d:=⟨a,b,c,d,h,i,j,k,l,m⟩
theorem m9 {P:A->B->C->D->E->Prop}(a b c d e)(h:P a b c d e):∃ a b c d e,P a b c d e:=⟨a,b,c,d,e,h⟩
theorem Z1 {P Q R S:A->B->C->D->E->Prop}(a b c d e)(h:P a b c d e)(i:Q a b c d e)(j:R a b c d e)(k:S a b c d e):∃ a b c d e,P a b c d e/\Q a b c d e/\R a b c d e/\S a b c d e:=⟨a,b,c,d,e,h,i,j,k⟩
theorem z7 {P Q R S T:A->B->C->D->E->Prop}(a b c d e)(h:P a b c d e)(i:Q a b c d e)(j:R a b c d e)(k:S a b c d e)(l:T a b c d e):∃ a b c d e,P a b c d e/\Q a b c d e/\R a b c d e/\S a b c d e/\T a b c d e:=⟨a,b,c,d,e,h,i,j,k,l⟩
theorem j1 {P Q R S T U:A->B->C->D->E->Prop}(a b c d e)(h:P a b c d e)(i:Q a b c d e)(j:R a b c d e)(k:S a b c d e)(l:T a b c d e)(m:U a b c d e):∃ a b c d e,P a b c d e/\Q a b c d e/\R a b c d e/\S a b c d e/\T a b c d e/\U a b c d e:=⟨a,b,c,d,e,h,i,j,k,l,m⟩
theorem K1 {P Q R S T U W:A->B->C->D->E->Prop}(a b c d e)(h:P a b c d e)(i:Q a b c d e)(j:R a b c d e)(k:S a b c d e)(l:T a b c d e)(m:U a b c d e)(n:W a b c d e):∃ a b c d e,P a b c d e/\Q a b c d e/\R a b c d e/\S a b c d e/\T a b c d e/\U a b c d e/\W a b c d e:=⟨a,b,c,d,e,h,i,j,k,l,m,n⟩
theorem F5 {P Q R S T U:A->B->C->D->E->F->Prop}(a b c d e f)(h:P a b c d e f)(i:Q a b c d e f)(j:R a b c d e f)(k:S a b c d e f)(l:T a b c d e f)(m:U a b c d e f):∃ a b c d e f,P a b c d e f/\Q a b c d e f/\R a b c d e f/\S a b c d e f/\T a b c d e f/\U a b c d e f:=⟨a,b,c,d,e,f,h,i,j,k,l,m⟩
theorem Z0 {P Q R S T U:A->B->C->D->E->F->G->Prop}(a b c d e f g)(h:P a b c d e f g)(i:Q a b c d e f g)(j:R a b c d e f g)(k:S a b c d e f g)(l:T a b c d e f g)(m:U a b c d e f g):∃ a b c d e f g,P a b c d e f g/\Q a b c d e f g/\R a b c d e f g/\S a b c d e f g/\T a b c d e f g/\U a b c d e f g:=⟨a,b,c,d,e,f,g,h,i,j,k,l,m⟩
end L2
namespace L2
open PySem PySem.Spec PyProof.Rows
abbrev Key:=Sum Int Str
def ax2:Key->Value->Bool
 | .inl k,v=>Value.isInt k v
 | .inr x,v=>Value.isStrOf x v
def bU7 (w:World):Key->Int
 | .inl k=>hashInt k
 | .inr x=>hashStr w x
theorem A8:∀ {k:Key}{v:Value},ax2 k v=true->(∃ i t,k=Sum.inl i/\v=Value.int i t)\/(∃ x t,k=Sum.inr x/\v=Value.str x t)
 | .inl i,v,h=>by
  obtain ⟨t,e⟩:=Value.isInt_shape (k:=i) (v:=v) h
  exact .inl ⟨i,t,rfl,e⟩
 | .inr x,v,h=>by
  obtain ⟨t,e⟩:=Value.isStrOf_shape (x:=x) (v:=v) h
  exact .inr ⟨x,t,rfl,e⟩
theorem aZ4 (i:Int)(t:Tok):ax2 (.inl i) (.int i t)=true:=by simp [ax2,Value.isInt]
theorem aZ3 (x:Str)(t:Tok):ax2 (.inr x) (.str x t)=true:=by simp [ax2,Value.isStrOf]
theorem bJ9 (a b:Int):decide ((Sum.inl a:Key)=Sum.inl b)=(a == b):=by
 by_cases e:a=b
 ·subst e;simp
 ·have h:¬ (Sum.inl a:Key)=Sum.inl b:=fun q=>e (Sum.inl.inj q)
  rw [decide_eq_false h]
  exact (beq_eq_false_iff_ne.mpr e).symm
theorem bJ6 (a b:Str):decide ((Sum.inr a:Key)=Sum.inr b)=decide (a=b):=by
 by_cases e:a=b
 ·subst e;simp
 ·have h:¬ (Sum.inr a:Key)=Sum.inr b:=fun q=>e (Sum.inr.inj q)
  rw [decide_eq_false h,decide_eq_false e]
theorem bJ8 (a:Int)(b:Str):decide ((Sum.inl a:Key)=Sum.inr b)=false:=decide_eq_false (fun q=>nomatch q)
theorem bJ7 (a:Str)(b:Int):decide ((Sum.inr a:Key)=Sum.inl b)=false:=decide_eq_false (fun q=>nomatch q)
def D8 (prog:Program)(w:World):PySem.KeyKind prog w Key where
 is:=ax2
 hash:=bU7 w
 inj:=fun v a b ha hb=>by
  rcases A8 ha with ⟨i,t,rfl,rfl⟩ | ⟨x,t,rfl,rfl⟩
  ·rcases A8 hb with ⟨j,u,rfl,e⟩ | ⟨y,u,rfl,e⟩
   ·injection e with e1 _;rw [e1]
   ·exact nomatch e
  ·rcases A8 hb with ⟨j,u,rfl,e⟩ | ⟨y,u,rfl,e⟩
   ·exact nomatch e
   ·injection e with e1 _;rw [e1]
 byValue:=fun k v h=>by
  rcases A8 h with ⟨i,t,rfl,rfl⟩ | ⟨x,t,rfl,rfl⟩<;>rfl
 pyHash:=fun hv h=>by
  rcases A8 hv with ⟨i,t,rfl,rfl⟩ | ⟨x,t,rfl,rfl⟩
  ·exact wpAny_pyHash_int h
  ·exact wpAny_pyHash_str h
 eqBool:=fun hu hv h=>by
  rcases A8 hu with ⟨i,t,rfl,rfl⟩ | ⟨x,t,rfl,rfl⟩
  ·rcases A8 hv with ⟨j,u,rfl,rfl⟩ | ⟨y,u,rfl,rfl⟩
   ·rw [bJ9] at h;exact wpAny_eqBool_int h
   ·rw [bJ8] at h;exact SeqAt.EqAt.int_str i t y u _ _ _ _ h
  ·rcases A8 hv with ⟨j,u,rfl,rfl⟩ | ⟨y,u,rfl,rfl⟩
   ·rw [bJ7] at h;exact SeqAt.EqAt.str_int x t j u _ _ _ _ h
   ·rw [bJ6] at h;exact wpAny_eqBool_str h
 «strs»:=fun k x t v h=>by
  rcases A8 h with ⟨i,u,rfl,e⟩ | ⟨y,u,rfl,e⟩
  ·exact nomatch e
  ·injection e with e1 _
   subst e1
   cases v<;>rfl
theorem aH0 (prog:Program)(w:World)(i:Int)(t:Tok):(D8 prog w).is (.inl i) (.int i t)=true:=aZ4 i t
theorem aG9 (prog:Program)(w:World)(x:Str)(t:Tok):(D8 prog w).is (.inr x) (.str x t)=true:=aZ3 x t
end L2
namespace L2
open PySem PySem.Spec PyProof.Rows
inductive V where
 | non | bl (b:Bool) | int (i:Int) | str (x:Str) | byt (b:Array UInt8) | flt (b:UInt64) | ref (a:Addr) | ty (n:String)
 deriving DecidableEq
def t9:V->Value->Prop
 | .non,u=>u=Value.none
 | .bl b,u=>u=Value.bool b
 | .int i,u=>∃ t,u=Value.int i t
 | .str x,u=>∃ t,u=Value.str x t
 | .byt b,u=>∃ t,u=Value.bytes b t
 | .flt b,u=>∃ t,u=Value.float b t
 | .ref a,u=>u=Value.ref a
 | .ty n,u=>u=Value.type n
abbrev n9:List V->List Value->Prop:=Paired t9
theorem n9.length {xs:List V}{us:List Value}(r:n9 xs us):xs.length=us.length:=Paired.length r
theorem n9.get:∀ {xs:List V}{us:List Value}{i:Nat}{x:V},n9 xs us->xs[i]?=some x->∃ u,us[i]?=some u/\t9 x u
 | _,_,_,_,.nil,e=>by simp at e
 | _,_,0,_,.cons r _,e=>by simp at e;subst e;exact ⟨_,rfl,r⟩
 | _,_,i+1,x,.cons _ t,e=>by
  obtain ⟨u,h1,h2⟩:=n9.get (i:=i) (x:=x) t (by simpa using e)
  exact ⟨u,by simpa using h1,h2⟩
theorem n9.append:∀ {xs ys:List V}{us ws:List Value},n9 xs us->n9 ys ws->n9 (xs++ys) (us++ws)
 | _,_,_,_,.nil,s=>s
 | _,_,_,_,.cons r t,s=>.cons r (n9.append t s)
theorem n9.take:∀ {xs:List V}{us:List Value} (n:Nat),n9 xs us->n9 (xs.take n) (us.take n)
 | _,_,0,_=>.nil
 | _,_,_+1,.nil=>.nil
 | _,_,n+1,.cons r t=>.cons r (n9.take n t)
theorem n9.drop:∀ {xs:List V}{us:List Value} (n:Nat),n9 xs us->n9 (xs.drop n) (us.drop n)
 | _,_,0,r=>r
 | _,_,_+1,.nil=>.nil
 | _,_,n+1,.cons _ t=>n9.drop n t
def V3:Option V->Option Value->Prop
 | some v,some u=>t9 v u
 | none,none=>True
 | _,_=>False
def KV {κ:Type}:List (κ×V)->List (κ×Value)->Prop:=Paired fun (p:κ×V) (q:κ×Value)=>p.1=q.1/\t9 p.2 q.2
def kV:Key->V
 | .inl i=>.int i
 | .inr x=>.str x
inductive HO where
 /-- a list -/
 | lst (xs:List V)
 /-- a tuple (never changes) -/
 | tup (xs:List V)
 /-- a dict whose keys are ints and texts;one whose keys are tuples of ints and texts (the empty one is both) -/
 | dK (kvs:List (Key×V)) | dT (kvs:List (List Key×V))
 /-- a set of ints: its members,its size -/
 | set (S:Int->Bool) (n:Nat)
 /-- an instance of the class at C,its dict at dx,its attributes -/
 | ins (C dx:Addr) (fs:List (Str×V))
 /-- the dict of the instance at x -/
 | own (x:Addr)
 /-- the dict of an exception -/
 | xd (fs:List (Str×V))
 /-- a bound method,f of x -/
 | met (f x:Addr)
 /-- a range object lo,lo+1,.. below hi -/
 | rng (lo hi:Int)
 /-- a thing that is known to the object (the script;a dict while a loop walks it): read,never written while it is so -/
 | frz (o:Obj) (u:HO)
 /-- a code object's table -/
 | tbl (ps:Array Value)
 /-- any other thing,by what is true of its one object (a def of one's own: SetO a S n:=HO.ext fun h=>..) -/
 | ext (φ:Heap->Prop)
abbrev Hp:=Addr->Option HO
def upd (H:Hp)(a:Addr)(o:HO):Hp:=fun b=>if b=a then some o else H b
theorem c7 {H:Hp}{a:Addr}{o:HO}:upd H a o a=some o:=by unfold upd;rw [if_pos rfl]
theorem d6 {H:Hp}{a b:Addr}{o:HO}(h:b≠a):upd H a o b=H b:=by unfold upd;rw [if_neg h]
theorem A5 {H:Hp}{a:Addr}{o u:HO}:upd (upd H a o) a u=upd H a u:=by
 funext b;unfold upd;split<;>rfl
theorem bA9 {H:Hp}{a b:Addr}{o u:HO}(h:H a=some o)(h':H b=some u)(d:o≠u):a≠b:=by
 intro e;subst e;rw [h] at h';exact d (Option.some.inj h')
theorem i0 {H:Hp}{a b:Addr}{o:HO}(h:H a=some o)(h':H b=none):a≠b:=by
 intro e;subst e;rw [h] at h';cases h'
section
variable (P:Program)(w:World)
def r9 (H:Hp)(h:Heap)(a:Addr):HO->Prop
 | .lst xs=>xs.length<=sizeLine/\∃ (its:List Value) (n:Nat),n9 xs its/\h.get? a=some { cls:=.type "list",data:=.seq its.toArray n }
 | .tup xs=>xs.length<=sizeLine/\∃ its:List Value,n9 xs its/\IsTup h a its.toArray
 | .dK kvs=>kvs.length<=sizeLine/\(a == sysModules)=false/\∃ vs,KV kvs vs/\h.DictOf (D8 P w) a vs
 | .dT kvs=>kvs.length<=sizeLine/\(a == sysModules)=false/\∃ xs:List (List Key×Addr×Value),
   Paired (fun (p:List Key×V) (q:List Key×Addr×Value)=>p.1=q.1/\H q.2.1=some (.tup (p.1.map kV))/\t9 p.2 q.2.2) kvs xs /\
   ∃ o es ep,h.get? a=some o/\o.ExactDict/\o.data=.dict es ep/\es.toList=xs.map (entryOfKey (tupleKind (D8 P w)))/\(xs.map (·.1)).Nodup
 | .set S n=>h.SetOf (intKind P w) a S n
 | .ins C dx fs=>H dx=some (.own a)/\fs.length<=1000/\dx≠a/\h.get? a=some (W.instObj C dx) /\
   ∃ mA,h.Ns1 dx mA/\(∀ f,V3 (fs.lookup f) (mA f))/\PySem.Within mA (fs.map (·.1))
 | .own _=>∃ o,h.get? a=some o
 | .xd fs=>∃ mA,h.Ns1 a mA/\∀ f,V3 (fs.lookup f) (mA f)
 | .rng lo hi=>∃ t u v,h.get? a=some { cls:=.type "range",data:=.fields #[.int lo t,.int hi u,.int 1 v] }
 | .frz o u=>h.get? a=some o/\r9 H h a u
 | .tbl ps=>h.get? a=some { cls:=.none,data:=.fields ps }
 | .met f x=>h.get? a=some (W.methodObj (.ref f) (.ref x))
 | .ext φ=>φ h/\(∃ o,h.get? a=some o)/\∀ h1 h2:Heap,φ h1->(∀ o,h1.get? a=some o->h2.get? a=some o)->φ h2
def HOk (H:Hp)(h:Heap):Prop:=∀ a o,H a=some o->r9 P w H h a o
end
section
variable {P:Program}{w:World}{H H':Hp}{h h':Heap}{a:Addr}{o:HO}
theorem r9.lt (x:r9 P w H h a o):a < h.objs.size:=by
 cases o with
 | lst xs=>obtain ⟨_,_,_,_,e⟩:=x;exact Heap.lt_size e
 | tup xs=>obtain ⟨_,_,_,p⟩:=x;exact p.lt
 | dK kvs=>obtain ⟨_,_,_,_,o,_,_,e,_⟩:=x;exact Heap.lt_size e
 | dT kvs=>obtain ⟨_,_,_,_,o,_,_,e,_⟩:=x;exact Heap.lt_size e
 | set S n=>obtain ⟨o,_,_,_,e,_⟩:=x;exact Heap.lt_size e
 | ins C dx fs=>obtain ⟨_,_,_,e,_⟩:=x;exact Heap.lt_size e
 | own y=>obtain ⟨_,e⟩:=x;exact Heap.lt_size e
 | xd fs=>obtain ⟨_,⟨_,_,_,e,_⟩,_⟩:=x;exact Heap.lt_size e
 | rng lo hi=>obtain ⟨_,_,_,e⟩:=x;exact Heap.lt_size e
 | frz ob u=>obtain ⟨e,_⟩:=x;exact Heap.lt_size e
 | tbl ps=>exact Heap.lt_size (show h.get? a=some _ from x)
 | met f y=>exact Heap.lt_size (show h.get? a=some _ from x)
 | ext φ=>obtain ⟨_,⟨_,e⟩,_⟩:=x;exact Heap.lt_size e
theorem Paired.mapP {α β:Type}{F G:α->β->Prop}:∀ {l₁:List α}{l₂:List β},Paired F l₁ l₂->(∀ a b,F a b->G a b)->Paired G l₁ l₂
 | _,_,.nil,_=>.nil
 | _,_,.cons r t,f=>.cons (f _ _ r) (Paired.mapP t f)
theorem r9.stay (x:r9 P w H h a o)(k:∀ b u,(b=a\/H b=some (.own a))->h.get? b=some u->h'.get? b=some u)
  (ho:∀ b,H b=some (.own a)->H' b=some (.own a)) (ht:∀ b xs,H b=some (.tup xs)->H' b=some (.tup xs)):r9 P w H' h' a o:=by
 induction o with
 | lst xs=>obtain ⟨z,its,n,r,e⟩:=x;exact ⟨z,its,n,r,k _ _ (.inl rfl) e⟩
 | tup xs=>obtain ⟨z,its,r,ob,e,c⟩:=x;exact ⟨z,its,r,ob,k _ _ (.inl rfl) e,c⟩
 | dK kvs=>obtain ⟨z,y,vs,r,ob,es,ep,e,c⟩:=x;exact ⟨z,y,vs,r,ob,es,ep,k _ _ (.inl rfl) e,c⟩
 | dT kvs =>
  obtain ⟨z,y,xs,r,ob,es,ep,e,c⟩:=x
  exact ⟨z,y,xs,Paired.mapP r fun p q z=>⟨z.1,ht _ _ z.2.1,z.2.2⟩,ob,es,ep,k _ _ (.inl rfl) e,c⟩
 | set S n=>obtain ⟨ob,es,ep,t,e,c⟩:=x;exact ⟨ob,es,ep,t,k _ _ (.inl rfl) e,c⟩
 | ins C dx fs =>
  obtain ⟨d,z,ne,e,mA,⟨od,es,ep,e2,c⟩,r⟩:=x
  exact ⟨ho _ d,z,ne,k _ _ (.inl rfl) e,mA,⟨od,es,ep,k _ _ (.inr d) e2,c⟩,r⟩
 | own y=>obtain ⟨ob,e⟩:=x;exact ⟨ob,k _ _ (.inl rfl) e⟩
 | xd fs=>obtain ⟨mA,⟨od,es,ep,e,c⟩,r⟩:=x;exact ⟨mA,⟨od,es,ep,k _ _ (.inl rfl) e,c⟩,r⟩
 | rng lo hi=>obtain ⟨t,u,v,e⟩:=x;exact ⟨t,u,v,k _ _ (.inl rfl) e⟩
 | frz ob u ih=>obtain ⟨e,q⟩:=x;exact ⟨k _ _ (.inl rfl) e,ih q⟩
 | tbl ps =>
  have e:h.get? a=some { cls:=.none,data:=.fields ps }:=x
  show h'.get? a=some { cls:=.none,data:=.fields ps }
  exact k a _ (.inl rfl) e
 | met f y =>
  have e:h.get? a=some (W.methodObj (.ref f) (.ref y)):=x
  show h'.get? a=some (W.methodObj (.ref f) (.ref y))
  exact k a _ (.inl rfl) e
 | ext φ=>obtain ⟨p,⟨o,e⟩,st⟩:=x;exact ⟨st _ _ p fun o q=>k _ _ (.inl rfl) q,⟨o,k _ _ (.inl rfl) e⟩,st⟩
theorem HOk.lt (x:HOk P w H h)(e:H a=some o):a < h.objs.size:=(x a o e).lt
theorem HOk.fresh (x:HOk P w H h)(e:h.objs.size<=a):H a=none:=by
 cases q:H a with
 | none=>rfl
 | some u=>exact absurd (Nat.lt_of_lt_of_le (x.lt q) e) (Nat.lt_irrefl _)
theorem HOk.kept (x:HOk P w H h)(k:∀ b u,h.get? b=some u->h'.get? b=some u):HOk P w H h':=fun a o e =>
 (x a o e).stay (fun b u _ q=>k b u q) (fun _ q=>q) fun _ _ q=>q
theorem HOk.laid (x:HOk P w H h)(k:∀ b u,h.get? b=some u->h'.get? b=some u)(hp:h.objs.size<=a)(new:r9 P w (upd H a o) h' a o):HOk P w (upd H a o) h':=fun b u e=>by
 have hn:=x.fresh hp
 by_cases hb:b=a
 ·subst hb;rw [c7] at e;cases e;exact new
 ·rw [d6 hb] at e
  exact (x b u e).stay (fun c v _ q=>k c v q) (fun c q=>by rw [d6 (i0 q hn)];exact q) fun c xs q=>by rw [d6 (i0 q hn)];exact q
end
def Rd (H:Hp)(a:Addr)(u:HO):Prop:=H a=some u\/∃ o,H a=some (.frz o u)
theorem Rd.ok {P:Program}{w:World}{H:Hp}{h:Heap}{a:Addr}{u:HO}(r:Rd H a u)(x:HOk P w H h):r9 P w H h a u:=by
 rcases r with r | ⟨o,r⟩
 ·exact x a u r
 ·obtain ⟨_,q⟩:=x a _ r
  exact q
def Mut:Option HO->Prop
 | some (.lst _)=>True
 | some (.dK _)=>True
 | some (.dT _)=>True
 | some (.set _ _)=>True
 | some (.ins _ _ _)=>True
 | some (.ext _)=>True
 | _=>False
section
variable {P:Program}{w:World}{H:Hp}{h h':Heap}{x e:Addr}{o':HO}
theorem HOk.write (ok:HOk P w H h)(mu:Mut (H x))(he:e=x\/H e=some (.own x))(k:∀ b u,b≠e->h.get? b=some u->h'.get? b=some u)(heo:∃ u,h'.get? e=some u)
  (new:r9 P w (upd H x o') h' x o'):HOk P w (upd H x o') h':=fun b u q=>by
 have nown:∀ c y,H c=some (.own y)->c≠x:=fun c y r z=>by subst z;rw [r] at mu;exact mu
 have ntup:∀ c xs,H c=some (.tup xs)->c≠x:=fun c xs r z=>by subst z;rw [r] at mu;exact mu
 by_cases hb:b=x
 ·subst hb;rw [c7] at q;cases q;exact new
 ·rw [d6 hb] at q
  by_cases hbe:b=e
  ·have q':H b=some (.own x):=by
    rcases he with z | z
    ·exact absurd (hbe.trans z) hb
    ·rw [hbe];exact z
   rw [q] at q';cases q'
   obtain ⟨v,hv⟩:=heo
   exact ⟨v,by rw [hbe];exact hv⟩
  ·refine (ok b u q).stay (fun c v hc r=>k c v ?_ r) (fun c r=>by rw [d6 (nown c b r)];exact r) fun c xs r=>by rw [d6 (ntup c xs r)];exact r
   rcases hc with rfl | hc
   ·exact hbe
   ·rintro rfl
    rcases he with z | z
    ·exact nown c b hc z
    ·rw [hc] at z;cases z;exact hb rfl
end
structure Un (fs ex:List Addr)(H H':Hp)(h h':Heap):Prop where
 keep:∀ b o,h.get? b=some o->H b=none->b∉fs->b∉ex->h'.get? b=some o
 slot:∀ b o,h.get? b=some o->H b=none->b∈fs->b∉ex->∃ sl,h'.get? b=some { o with slots:=sl }
 free:∀ b o,h.get? b=some o->H b=none->b∉ex->H' b=none
 there:∀ b o,h.get? b=some o->b∉ex->∃ o',h'.get? b=some o'
 tups:∀ b xs,H b=some (.tup xs)->H' b=some (.tup xs)
 frzs:∀ b o u,H b=some (.frz o u)->H' b=some (.frz o u)
 tbls:∀ b ps,H b=some (.tbl ps)->∃ more,H' b=some (.tbl (ps++more))
section
variable {fs fs' ex ex':List Addr}{H H1 H2:Hp}{h h1 h2 h':Heap}{a x e:Addr}{o:HO}
theorem Un.any (u:Un fs ex H H1 h h1){b:Addr}{ob:Obj}(q:h.get? b=some ob)(n:H b=none)(hx:b∉ex):∃ sl,h1.get? b=some { ob with slots:=sl }:=by
 by_cases hb:b∈fs
 ·exact u.slot b ob q n hb hx
 ·exact ⟨ob.slots,u.keep b ob q n hb hx⟩
theorem Un.kept (k:∀ b u,h.get? b=some u->h'.get? b=some u):Un fs ex H H h h' :=
 ⟨fun b ob q _ _ _=>k b ob q,fun b ob q _ _ _=>⟨ob.slots,k b ob q⟩,fun _ _ _ n _=>n,fun b ob q _=>⟨ob,k b ob q⟩,fun _ _ q=>q,fun _ _ _ q=>q,fun _ ps q=>⟨#[],by rw [q];simp⟩⟩
theorem Un.refl:Un fs ex H H h h:=Un.kept fun _ _ q=>q
theorem Un.laid (k:∀ b u,h.get? b=some u->h'.get? b=some u)(hp:h.objs.size<=a)(hn:H a=none):Un fs ex H (upd H a o) h h' where
 keep:=fun b u q _ _ _=>k b u q
 slot:=fun b u q _ _ _=>⟨u.slots,k b u q⟩
 free:=fun b u q n _=>by rw [d6 (Nat.ne_of_lt (Nat.lt_of_lt_of_le (Heap.lt_size q) hp))];exact n
 there:=fun b u q _=>⟨u,k b u q⟩
 tups:=fun b xs q=>by rw [d6 (i0 q hn)];exact q
 frzs:=fun b u xs q=>by rw [d6 (i0 q hn)];exact q
 tbls:=fun b ps q=>⟨#[],by rw [d6 (i0 q hn),q];simp⟩
theorem Un.write (mu:Mut (H x))(he:e=x\/H e=some (.own x))(k:∀ b u,b≠e->h.get? b=some u->h'.get? b=some u)(heo:∃ u,h'.get? e=some u):Un fs ex H (upd H x o) h h':=by
 have hx:∀ b,H b=none->b≠x:=fun b n z=>by subst z;rw [n] at mu;exact mu
 have hb:∀ b,H b=none->b≠e:=fun b n z=>by
  subst z
  rcases he with r | r
  ·exact hx b n r
  ·rw [n] at r;cases r
 have hm:∀ b u,H b=some u->¬ Mut (some u)->b≠x:=fun b u q nm z=>by subst z;rw [q] at mu;exact nm mu
 refine ⟨fun b u q n _ _=>k b u (hb b n) q,fun b u q n _ _=>⟨u.slots,k b u (hb b n) q⟩,fun b u q n _=>by rw [d6 (hx b n)];exact n,fun b u q _=>?_,
  fun b xs q=>by rw [d6 (hm b _ q fun z=>z)];exact q,fun b u xs q=>by rw [d6 (hm b _ q fun z=>z)];exact q,fun b ps q=>⟨#[],by rw [d6 (hm b _ q fun z=>z),q];simp⟩⟩
 by_cases hbe:b=e
 ·subst hbe;exact heo
 ·exact ⟨u,k b u hbe q⟩
end
def trk (h:Heap)(H:Hp):List Addr:=(List.range h.objs.size).filter fun a=>(H a).isSome
def aC7 (h:Heap)(H:Hp):Heap:=W.hideAll h (trk h H)
theorem aZ9 (h:Heap)(H:Hp):(aC7 h H).objs.size=h.objs.size:=W.hideAll_size _ _
theorem bm3 {h:Heap}{H:Hp}{b:Addr}{o:Obj}(e:h.get? b=some o)(n:H b=none):(aC7 h H).get? b=some o :=
 W.hideAll_get _ e fun hm=>by
  have q:(H b).isSome=true:=(List.mem_filter.mp hm).2
  rw [n] at q;simp at q
theorem bv0 {h:Heap}{H:Hp}{b:Addr}{o:Obj}(e:(aC7 h H).get? b=some o):h.get? b=some o/\H b=none:=by
 have e':h.get? b=some o:=W.of_hideAll (trk h H) e
 refine ⟨e',?_⟩
 cases q:H b with
 | none=>rfl
 | some x =>
  have hm:b∈trk h H:=List.mem_filter.mpr ⟨List.mem_range.mpr (Heap.lt_size e'),by simp [q]⟩
  have z:(aC7 h H).get? b=none:=W.hideAll_none (trk h H) hm
  rw [z] at e;cases e
end L2
namespace L2
open PySem PySem.Spec PyProof.Rows
structure Mod (K:W.Frag)(mg:Str->Option Value)(base:Heap):Prop where
 kin:K.In base
 glob:base.Ns mainGlobals mg
 blt:∃ mb,base.Ns builtinsNs mb/\∀ x:Str,x≠"__name__"->mb x=bootBuiltins x
 nolimit:base.NoLimit
 digits:base.NoDigits
 seer:base.NoSeer
 bmain:∃ bm ob,mg "__builtins__"=some (.ref bm)/\bm≠builtinsNs/\base.get? bm=some ob/\ob.cls=.type "module"/\ob.dict=some builtinsNs/\ob.data=.plain
structure Cx where
 prog:Program
 w:World
 K:W.Frag
 mg:Str->Option Value
 base:Heap
 A:Around
 N:List Str
 s_0:Shared
 H_0:Hp
 env:Env
 outer:List Env
 stack:List Env
 ex:List Addr
 fn:Str->Bool
 calm:Bool
 pn:List (Addr×Obj)
 xe:Value->Shared->Prop
def frs (l:List Env):List Addr:=l.filterMap (·.frame)
abbrev Cx.fs (X:Cx):List Addr:=frs X.outer
def Vis (sc:Scope)(x:Str):Prop:=sc.names.lookup x=some .local \/sc.names.lookup x=some .cell\/sc.names.lookup x=some .free
def Loc (sc:Scope)(x:Str):Prop:=sc.names.lookup x=some .local \/sc.names.lookup x=some .cell
def bW0 (env:Env)(h:Heap)(m:Str->Option Value)(x:Str)(u:Value):Prop :=
 (env.kindOf x=some .local /\m x=some u)\/((env.kindOf x=some .cell\/env.kindOf x=some .free)/\∃ c,env.cells.lookup x=some c/\h.IsCell c (some u))
structure Cx.Ok (X:Cx):Prop where
 mod:Mod X.K X.mg X.base
 kind:X.env.scope.kind=.function
 glob:X.env.globals=mainGlobals
 blt:X.env.builtins=builtinsNs
 above:X.s_0.heap.objs.size<=X.env.locals
 inj:∀ x y c,X.env.cells.lookup x=some c->X.env.cells.lookup y=some c->x=y
 has:∀ x,(X.env.kindOf x=some .cell\/X.env.kindOf x=some .free)->∃ c,X.env.cells.lookup x=some c
 cab:∀ x c,X.fn x=true->X.env.cells.lookup x=some c->X.s_0.heap.objs.size<=c
 hd:X.calm=true->X.A.handled=none
 frames:X.A.frames=some X.stack
 stk:X.stack=X.outer\/(X.stack=X.env::X.outer/\X.env.frame=some X.env.locals)
 exf:∀ b∈X.ex,b≠X.env.locals/\∀ x c,X.env.cells.lookup x=some c->c≠b
 bs:∀ b o,X.base.get? b=some o->X.s_0.heap.get? b=some o/\X.H_0 b=none
 bsz:X.base.objs.size<=X.s_0.heap.objs.size
 noex:∀ b o,X.base.get? b=some o->b∉X.ex
 exfs:∀ b∈X.ex,b∉X.fs
 funs:X.s_0.heap.FunFrames X.base X.outer
 frf:∀ b∈X.fs,X.H_0 b=none
structure Inv (X:Cx)(pins:List (Addr×Obj))(σ:List (Option V))(H:Hp)(s:Shared):Prop where
 ok:X.Ok
 os:s.os=X.s_0.os
 bare:AllBare s.gens
 base:Un X.fs X.ex X.H_0 H X.s_0.heap s.heap
 loc:∃ m,s.heap.Ns X.env.locals m/\∀ (i:Nat) (x:Str) (v:V),X.N[i]?=some x->σ[i]?=some (some v)->Vis X.env.scope x->∃ u,t9 v u/\bW0 X.env s.heap m x u
 cell:∀ x c,X.env.cells.lookup x=some c->∃ v,s.heap.IsCell c v
 free:H X.env.locals=none
 freeC:∀ x c,X.env.cells.lookup x=some c->H c=none
 pin:∀ p∈X.pn++pins,s.heap.get? p.1=some p.2/\H p.1=none/\p.1≠X.env.locals/\p.1∉X.fs/\∀ v,p.2.data≠.cell v
 hok:HOk X.prog X.w H s.heap
 len:σ.length=X.N.length
section
variable {X:Cx}{pins:List (Addr×Obj)}{σ:List (Option V)}{H H':Hp}{s:Shared}{h':Heap}
theorem Cx.Ok.nofr (ok:X.Ok){b:Addr}{o:Obj}(e:X.base.get? b=some o):b∉X.fs:=fun hb=>by
 have:=(ok.funs.mem hb).1
 rw [e] at this;cases this
theorem Inv.bs (I:Inv X pins σ H s):∀ b o,X.base.get? b=some o->s.heap.get? b=some o/\H b=none:=fun b o e =>
 ⟨I.base.keep b o (I.ok.bs b o e).1 (I.ok.bs b o e).2 (I.ok.nofr e) (I.ok.noex b o e),I.base.free b o (I.ok.bs b o e).1 (I.ok.bs b o e).2 (I.ok.noex b o e)⟩
theorem Inv.bk (I:Inv X pins σ H s):∀ b o,X.base.get? b=some o->s.heap.get? b=some o:=fun b o e=>(I.bs b o e).1
theorem Inv.mod (I:Inv X pins σ H s):Mod X.K X.mg X.base:=I.ok.mod
theorem Inv.kIn (I:Inv X pins σ H s):X.K.In s.heap:=I.ok.mod.kin.keeps I.bk
theorem Inv.nolimit (I:Inv X pins σ H s):s.heap.NoLimit:=I.ok.mod.nolimit.keeps I.bk
theorem Inv.fr (I:Inv X pins σ H s):∃ m,Fr X.base X.env.locals s.heap m :=
 let ⟨m,hn,_⟩:=I.loc
 ⟨m,hn,I.bk,Nat.le_trans I.ok.bsz I.ok.above⟩
theorem Inv.lt (I:Inv X pins σ H s):X.env.locals < s.heap.objs.size:=let ⟨_,hn,_⟩:=I.loc;hn.lt
theorem Inv.sz (I:Inv X pins σ H s):X.s_0.heap.objs.size<=s.heap.objs.size:=Nat.le_trans I.ok.above (Nat.le_of_lt I.lt)
theorem Inv.nofs (I:Inv X pins σ H s){a:Addr}(h:s.heap.objs.size<=a):a∉X.fs:=fun hb=>by
 obtain ⟨_,o,ho,_⟩:=I.ok.funs.mem hb
 exact absurd (Nat.lt_of_lt_of_le (Heap.lt_size ho) (Nat.le_trans I.sz h)) (Nat.lt_irrefl _)
theorem Inv.cne (I:Inv X pins σ H s):∀ x c,X.env.cells.lookup x=some c->c≠X.env.locals:=fun x c e z=>by
 obtain ⟨v,o,ho,hd⟩:=I.cell x c e
 obtain ⟨m,⟨o',es,ep,ho',hd',_⟩,_⟩:=I.loc
 rw [z,ho'] at ho;cases ho;rw [hd'] at hd;cases hd
theorem Inv.funs (I:Inv X pins σ H s):s.heap.FunFrames X.base X.outer:=by
 have all:∀ (l:List Env),(∀ b∈frs l,b∈X.fs)->X.s_0.heap.FunFrames X.base l->s.heap.FunFrames X.base l:=by
  intro l
  induction l with
  | nil=>intro _ _;trivial
  | cons env r ih =>
   intro hs hl
   obtain ⟨hk,⟨L,o,hf,hn,ho,hd⟩,hr⟩:=hl
   have hL:L∈X.fs:=hs L (by unfold frs;rw [List.filterMap_cons,hf];exact List.mem_cons_self)
   obtain ⟨sl,e⟩:=I.base.slot L o ho (I.ok.frf L hL) hL fun z=>I.ok.exfs L z hL
   exact ⟨hk,⟨L,_,hf,hn,e,hd⟩,ih (fun b hb=>hs b (by unfold frs;rw [List.filterMap_cons,hf];exact List.mem_cons_of_mem _ hb)) hr⟩
 exact all X.outer (fun _ hb=>hb) I.ok.funs
theorem Inv.stack (I:Inv X pins σ H s):s.heap.FunFrames X.base X.stack:=by
 rcases I.ok.stk with e | ⟨e,hf⟩
 ·rw [e];exact I.funs
 ·rw [e]
  obtain ⟨m,hn,_⟩:=I.loc
  refine .cons (by rw [I.ok.kind];decide) hf hn ?_ I.funs
  exact Heap.get?_none_of_le (Nat.le_trans I.ok.bsz I.ok.above)
theorem Inv.stkSub (I:Inv X pins σ H s):∀ b∈frs X.stack,b∈X.env.locals::X.fs:=fun b hb=>by
 rcases I.ok.stk with e | ⟨e,hf⟩
 ·rw [e] at hb;exact List.mem_cons_of_mem _ hb
 ·rw [e] at hb
  unfold frs at hb
  rw [List.filterMap_cons,hf] at hb
  exact hb
theorem Inv.stkFree (I:Inv X pins σ H s):∀ b∈frs X.stack,H b=none:=fun b hb=>by
 rcases List.mem_cons.mp (I.stkSub b hb) with e | hb
 ·rw [e];exact I.free
 ·obtain ⟨_,o,ho,_⟩:=I.ok.funs.mem hb
  exact I.base.free b o ho (I.ok.frf b hb) fun z=>I.ok.exfs b z hb
theorem Inv.step {g':Array GenState}{t':Nat}{d':Drawn}{ch:List Addr}(I:Inv X pins σ H s)
  (hch:∀ b∈ch,(b∈X.ex\/X.s_0.heap.objs.size<=b)/\b≠X.env.locals/\(∀ x c,X.env.cells.lookup x=some c->c≠b)/\∀ p∈X.pn++pins,p.1≠b)
  (keep:∀ b o,b≠X.env.locals->b∉X.fs->b∉ch->s.heap.get? b=some o->H b=none->h'.get? b=some o)
  (slot:∀ b o,b≠X.env.locals->b∈X.fs->b∉ch->s.heap.get? b=some o->H b=none->∃ sl,h'.get? b=some { o with slots:=sl }) (free:∀ b o,b∉ch->s.heap.get? b=some o->H b=none->H' b=none)
  (there:∀ b o,b∉ch->s.heap.get? b=some o->∃ o',h'.get? b=some o')
  (tups:∀ b xs,H b=some (.tup xs)->H' b=some (.tup xs)) (frzs:∀ b o u,H b=some (.frz o u)->H' b=some (.frz o u)) (tbls:∀ b ps,H b=some (.tbl ps)->∃ more,H' b=some (.tbl (ps++more)))
  (ns:∀ m,s.heap.Ns X.env.locals m->h'.Ns X.env.locals m) (hok:HOk X.prog X.w H' h') (hg:AllBare g') :
  Inv X pins σ H' { s with heap:=h',gens:=g',drawn:=d',toks:=t' }:=by
 have neL:∀ b o,X.s_0.heap.get? b=some o->b≠X.env.locals:=fun b o e=>Nat.ne_of_lt (Nat.lt_of_lt_of_le (Heap.lt_size e) I.ok.above)
 have neC:∀ b o,X.s_0.heap.get? b=some o->b∉X.ex->b∉ch:=fun b o e hx hb=>by
  rcases (hch b hb).1 with z | z
  ·exact hx z
  ·exact absurd (Nat.lt_of_lt_of_le (Heap.lt_size e) z) (Nat.lt_irrefl _)
 have cellK:∀ x c,X.env.cells.lookup x=some c->∀ v,s.heap.IsCell c v->h'.IsCell c v:=fun x c e v ⟨o,ho,hd⟩=>by
  have nch:c∉ch:=fun z=>(hch c z).2.2.1 x c e rfl
  by_cases hc:c∈X.fs
  ·obtain ⟨sl,q⟩:=slot c o (I.cne x c e) hc nch ho (I.freeC x c e)
   exact ⟨_,q,hd⟩
  ·exact ⟨o,keep c o (I.cne x c e) hc nch ho (I.freeC x c e),hd⟩
 refine ⟨I.ok,I.os,hg,⟨fun b o e n hb hx=>?_,fun b o e n hb hx=>?_,fun b o e n hx=>?_,fun b o e hx=>?_,fun b xs e=>tups b xs (I.base.tups b xs e),fun b o xs e=>frzs b o xs (I.base.frzs b o xs e),fun b ps e=>?_⟩,?_,fun x c e=>?_,?_,fun x c e=>?_,fun p hp=>?_,hok,I.len⟩
 ·exact keep b o (neL b o e) hb (neC b o e hx) (I.base.keep b o e n hb hx) (I.base.free b o e n hx)
 ·obtain ⟨sl,e1⟩:=I.base.slot b o e n hb hx
  obtain ⟨sl',e2⟩:=slot b _ (neL b o e) hb (neC b o e hx) e1 (I.base.free b o e n hx)
  exact ⟨sl',e2⟩
 ·obtain ⟨o',e1⟩:=I.base.there b o e hx
  exact free b o' (neC b o e hx) e1 (I.base.free b o e n hx)
 ·obtain ⟨o',e1⟩:=I.base.there b o e hx
  exact there b o' (neC b o e hx) e1
 ·obtain ⟨m1,e1⟩:=I.base.tbls b ps e
  obtain ⟨m2,e2⟩:=tbls b _ e1
  exact ⟨m1++m2,by rw [e2,Array.append_assoc]⟩
 ·obtain ⟨m,hn,hl⟩:=I.loc
  refine ⟨m,ns m hn,fun i x v e1 e2 e3=>?_⟩
  obtain ⟨u,r,l⟩:=hl i x v e1 e2 e3
  refine ⟨u,r,?_⟩
  rcases l with l | ⟨k,c,e,z⟩
  ·exact .inl l
  ·exact .inr ⟨k,c,e,cellK x c e _ z⟩
 ·obtain ⟨v,z⟩:=I.cell x c e
  exact ⟨v,cellK x c e v z⟩
 ·obtain ⟨m,⟨o,_,_,ho,_⟩,_⟩:=I.loc
  exact free _ o (fun z=>(hch _ z).2.1 rfl) ho I.free
 ·obtain ⟨v,o,ho,hd⟩:=I.cell x c e
  exact free c o (fun z=>(hch c z).2.2.1 x c e rfl) ho (I.freeC x c e)
 ·obtain ⟨e,n,ne,nf,d⟩:=I.pin p hp
  have nch:p.1∉ch:=fun z=>(hch p.1 z).2.2.2 p hp rfl
  exact ⟨keep p.1 p.2 ne nf nch e n,free p.1 p.2 nch e n,ne,nf,d⟩
theorem Inv.un {t':Nat}(I:Inv X pins σ H s)(u:Un X.fs [] H H' s.heap h')(hok:HOk X.prog X.w H' h'):Inv X pins σ H' { s with heap:=h',toks:=t' }:=by
 obtain ⟨m,⟨o,es,ep,ho,r⟩,_⟩:=id I.loc
 obtain ⟨sl,hL⟩:=u.any ho I.free (by simp)
 exact I.step (g':=s.gens) (d':=s.drawn) (ch:=[]) (fun _ z=>nomatch z) (fun b o _ hb _ e n=>u.keep b o e n hb (by simp)) (fun b o _ hb _ e n=>u.slot b o e n hb (by simp)) (fun b o _ e n=>u.free b o e n (by simp)) (fun b o _ e=>u.there b o e (by simp)) u.tups u.frzs u.tbls (fun m' hm=>by
  obtain ⟨o',es',ep',ho',r'⟩:=hm
  rw [ho] at ho';cases ho'
  exact ⟨_,es',ep',hL,r'⟩) hok I.bare
theorem Inv.call {g':Array GenState}{t':Nat}{d':Drawn}{ch:List Addr}(I:Inv X pins σ H s)(u:Un (frs X.stack) ch H H' s.heap h')(hok:HOk X.prog X.w H' h')(hg:AllBare g')
  (hch:∀ b∈ch,(b∈X.ex\/X.s_0.heap.objs.size<=b)/\b≠X.env.locals/\(∀ x c,X.env.cells.lookup x=some c->c≠b)/\∀ p∈X.pn++pins,p.1≠b) :
  Inv X pins σ H' { s with heap:=h',gens:=g',drawn:=d',toks:=t' }:=by
 obtain ⟨m,⟨o,es,ep,ho,r⟩,_⟩:=id I.loc
 obtain ⟨sl,hL⟩:=u.any ho I.free fun z=>(hch _ z).2.1 rfl
 exact I.step (ch:=ch) hch (fun b o hL hb hc e n=>u.keep b o e n (fun z=>(List.mem_cons.mp (I.stkSub b z)).elim hL hb) hc) (fun b o _ _ hc e n=>u.any e n hc) (fun b o hc e n=>u.free b o e n hc) (fun b o hc e=>u.there b o e hc) u.tups u.frzs u.tbls (fun m' hm=>by
  obtain ⟨o',es',ep',ho',r'⟩:=hm
  rw [ho] at ho';cases ho'
  exact ⟨_,es',ep',hL,r'⟩) hok hg
theorem Inv.turned {t':Nat}{it:Addr}(I:Inv X pins σ H s)(k:∀ b o,b≠it->s.heap.get? b=some o->h'.get? b=some o)(hn:H it=none)(hL:it≠X.env.locals)
  (h1:it∈X.ex\/X.s_0.heap.objs.size<=it) (h2:∀ x c,X.env.cells.lookup x=some c->c≠it) (h3:∀ p∈X.pn++pins,p.1≠it):Inv X pins σ H { s with heap:=h',toks:=t' }:=by
 have nit:∀ b u,H b=some u->b≠it:=fun b u e z=>by rw [z,hn] at e;cases e
 refine I.step (g':=s.gens) (d':=s.drawn) (ch:=[it]) (fun b hb=>?_) (fun b o _ _ hc e _=>k b o (fun z=>hc (by simp [z])) e) (fun b o _ _ hc e _=>⟨o.slots,k b o (fun z=>hc (by simp [z])) e⟩) (fun _ _ _ _ n=>n)
  (fun b o hc e=>⟨o,k b o (fun z=>hc (by simp [z])) e⟩) (fun _ _ e=>e) (fun _ _ _ e=>e) (fun b ps e=>⟨#[],by rw [e];simp⟩) (fun m hm=>?_) (fun b u e=>?_) I.bare
 ·have e:b=it:=by simpa using hb
  subst e
  exact ⟨h1,hL,h2,h3⟩
 ·obtain ⟨o,es,ep,ho,r⟩:=hm
  exact ⟨o,es,ep,k _ o (Ne.symm hL) ho,r⟩
 ·refine (I.hok b u e).stay (fun c v hc q=>k c v ?_ q) (fun _ q=>q) fun _ _ q=>q
  rcases hc with z | z
  ·rw [z];exact nit b u e
  ·exact nit c _ z
theorem Inv.tok (I:Inv X pins σ H s)(t:Nat):Inv X pins σ H { s with toks:=t }:=I.un (h':=s.heap) (t':=t) Un.refl I.hok
theorem Inv.kept {t':Nat}(I:Inv X pins σ H s)(k:∀ b u,s.heap.get? b=some u->h'.get? b=some u):Inv X pins σ H { s with heap:=h',toks:=t' }:=I.un (Un.kept k) (I.hok.kept k)
theorem Inv.laid {a:Addr}{o:HO}{t':Nat}(I:Inv X pins σ H s)(k:∀ b u,s.heap.get? b=some u->h'.get? b=some u)(hp:s.heap.objs.size<=a)(new:r9 X.prog X.w (upd H a o) h' a o) :
  Inv X pins σ (upd H a o) { s with heap:=h',toks:=t' }:=I.un (Un.laid k hp (I.hok.fresh hp)) (I.hok.laid k hp new)
theorem Inv.write {x e:Addr}{o:HO}{t':Nat}(I:Inv X pins σ H s)(mu:Mut (H x))(he:e=x\/H e=some (.own x))(k:∀ b u,b≠e->s.heap.get? b=some u->h'.get? b=some u)(heo:∃ u,h'.get? e=some u)
  (new:r9 X.prog X.w (upd H x o) h' x o):Inv X pins σ (upd H x o) { s with heap:=h',toks:=t' }:=I.un (Un.write mu he k heo) (I.hok.write mu he k heo new)
theorem Inv.weak {σ':List (Option V)}(I:Inv X pins σ H s)(hl:σ'.length=σ.length)(w:∀ (i:Nat) v,σ'[i]?=some (some v)->σ[i]?=some (some v)):Inv X pins σ' H s :=
 ⟨I.ok,I.os,I.bare,I.base,let ⟨m,hn,hl'⟩:=I.loc;⟨m,hn,fun i x v e1 e2 e3=>hl' i x v e1 (w i v e2) e3⟩,I.cell,I.free,I.freeC,I.pin,I.hok,hl.trans I.len⟩
theorem Inv.pins_of {pins':List (Addr×Obj)}(I:Inv X pins σ H s)(h:∀ p∈pins',s.heap.get? p.1=some p.2/\H p.1=none/\p.1≠X.env.locals/\p.1∉X.fs/\∀ v,p.2.data≠.cell v):Inv X pins' σ H s :=
 ⟨I.ok,I.os,I.bare,I.base,I.loc,I.cell,I.free,I.freeC,fun p hp=>(List.mem_append.mp hp).elim (fun z=>I.pin p (List.mem_append_left _ z)) (h p),I.hok,I.len⟩
theorem ar5 {N:List Str}(hN:N.Nodup){i j:Nat}{x:Str}(a:N[i]?=some x)(b:N[j]?=some x):i=j:=by
 obtain ⟨h1,e1⟩:=List.getElem?_eq_some_iff.mp a
 obtain ⟨h2,e2⟩:=List.getElem?_eq_some_iff.mp b
 exact (List.getElem_inj hN).mp (e1.trans e2.symm)
theorem ac0 {M:Model}{A:Around}{E:Value->Shared->Prop}{i:Nat}{x:Str}{v:V}{u:Value}{Q:Unit->Shared->Prop}(I:Inv X pins σ H s)(hN:X.N.Nodup)(hi:X.N[i]?=some x)(hx:Loc X.env.scope x)(r:t9 v u)
  (h:∀ s',Inv X pins (σ.set i (some v)) H s'->(∃ a,Heap.SameBut a s.heap s'.heap/\(a=X.env.locals\/X.env.cells.lookup x=some a))->Q () s') (hf:X.fn x=true\/X.env.scope.names.lookup x=some .local:=by first | exact .inl rfl | exact .inr rfl | assumption):wpAny M A (storeName X.env x u) Q E s:=by
 obtain ⟨m,hn,hl⟩:=id I.loc
 have hcls:(X.env.scope.kind == .class || (X.env.scope.kind == .module && X.env.locals != X.env.globals))=false:=by rw [I.ok.kind];rfl
 have hiσ:i < σ.length:=by rw [I.len];exact (List.getElem?_eq_some_iff.mp hi).1
 have cne:=I.cne
 have tracked:∀ {a:Addr}{h':Heap},(∃ o,s.heap.get? a=some o/\H a=none)->Heap.SameBut a s.heap h'->HOk X.prog X.w H h':=fun {a h'} ha hs b ob e=>by
  obtain ⟨_,_,hfree⟩:=ha
  refine (I.hok b ob e).stay (fun c w' hc q=>(hs.2 c ?_).trans q) (fun _ q=>q) fun _ _ q=>q
  rintro rfl
  rcases hc with rfl | hc
  ·rw [hfree] at e;cases e
  ·rw [hfree] at hc;cases hc
 rcases hx with hk | hk
 ·refine wpAny_storeName_local hk hn (fun h' hn' hs=>?_) hcls
  obtain ⟨oL,_,_,hoL,_⟩:=id hn
  refine h _ ⟨I.ok,I.os,I.bare,⟨fun b o e n hb hx=>?_,fun b o e n hb hx=>?_,I.base.free,fun b o e hx=>?_,I.base.tups,I.base.frzs,I.base.tbls⟩,⟨_,hn',fun j y v' e1 e2 e3=>?_⟩,fun y c e=>?_,I.free,I.freeC,fun p hp=>?_,tracked ⟨oL,hoL,I.free⟩ hs,by simpa using I.len⟩ ⟨_,hs,.inl rfl⟩
  ·exact (hs.2 b (Nat.ne_of_lt (Nat.lt_of_lt_of_le (Heap.lt_size e) I.ok.above))).trans (I.base.keep b o e n hb hx)
  ·obtain ⟨sl,e1⟩:=I.base.slot b o e n hb hx
   exact ⟨sl,(hs.2 b (Nat.ne_of_lt (Nat.lt_of_lt_of_le (Heap.lt_size e) I.ok.above))).trans e1⟩
  ·obtain ⟨o',e1⟩:=I.base.there b o e hx
   exact ⟨o',(hs.2 b (Nat.ne_of_lt (Nat.lt_of_lt_of_le (Heap.lt_size e) I.ok.above))).trans e1⟩
  ·by_cases hj:j=i
   ·subst hj
    rw [hi] at e1;cases e1
    rw [List.getElem?_set_self hiσ] at e2
    cases e2
    exact ⟨u,r,.inl ⟨hk,by simp⟩⟩
   ·rw [List.getElem?_set_ne (Ne.symm hj)] at e2
    obtain ⟨u',r',q⟩:=hl j y v' e1 e2 e3
    refine ⟨u',r',?_⟩
    rcases q with ⟨k,e⟩ | ⟨k,c,e,z⟩
    ·refine .inl ⟨k,?_⟩
     have:y≠x:=fun e=>hj (ar5 hN e1 (e▸hi))
     simp [this,e]
    ·exact .inr ⟨k,c,e,z.sameBut hs (cne y c e)⟩
  ·obtain ⟨w',z⟩:=I.cell y c e
   exact ⟨w',z.sameBut hs (cne y c e)⟩
  ·obtain ⟨e,n,ne,nf,d⟩:=I.pin p hp
   exact ⟨(hs.2 p.1 ne).trans e,n,ne,nf,d⟩
 ·have hfn:X.fn x=true:=by
   rcases hf with z | z
   ·exact z
   ·rw [z] at hk;cases hk
  obtain ⟨c,hc⟩:=I.ok.has x (.inl hk)
  obtain ⟨w',z⟩:=I.cell x c hc
  refine wpAny_storeName_cell I.ok.kind hk hc z (fun h' hc' hs=>?_)
  obtain ⟨oc,hoc,hocd⟩:=id z
  refine h { s with heap:=h' } ⟨I.ok,I.os,I.bare,⟨fun b o e n hb hx=>?_,fun b o e n hb hx=>?_,I.base.free,fun b o e hx=>?_,I.base.tups,I.base.frzs,I.base.tbls⟩,⟨m,hn.sameBut hs (Ne.symm (cne x c hc)),fun j y v' e1 e2 e3=>?_⟩,fun y c' e=>?_,I.free,I.freeC,fun p hp=>?_,tracked ⟨oc,hoc,I.freeC x c hc⟩ hs,by simpa using I.len⟩ ⟨c,hs,.inr hc⟩
  ·exact (hs.2 b (Nat.ne_of_lt (Nat.lt_of_lt_of_le (Heap.lt_size e) (I.ok.cab x c hfn hc)))).trans (I.base.keep b o e n hb hx)
  ·obtain ⟨sl,e1⟩:=I.base.slot b o e n hb hx
   exact ⟨sl,(hs.2 b (Nat.ne_of_lt (Nat.lt_of_lt_of_le (Heap.lt_size e) (I.ok.cab x c hfn hc)))).trans e1⟩
  ·obtain ⟨o',e1⟩:=I.base.there b o e hx
   exact ⟨o',(hs.2 b (Nat.ne_of_lt (Nat.lt_of_lt_of_le (Heap.lt_size e) (I.ok.cab x c hfn hc)))).trans e1⟩
  ·by_cases hj:j=i
   ·subst hj
    rw [hi] at e1;cases e1
    rw [List.getElem?_set_self hiσ] at e2
    cases e2
    exact ⟨u,r,.inr ⟨.inl hk,c,hc,hc'⟩⟩
   ·rw [List.getElem?_set_ne (Ne.symm hj)] at e2
    obtain ⟨u',r',q⟩:=hl j y v' e1 e2 e3
    refine ⟨u',r',?_⟩
    rcases q with q | ⟨k,c',e,z'⟩
    ·exact .inl q
    ·refine .inr ⟨k,c',e,z'.sameBut hs ?_⟩
     rintro rfl
     exact hj (ar5 hN e1 (I.ok.inj _ _ _ e hc▸hi))
  ·by_cases hcc:c'=c
   ·subst hcc;exact ⟨_,hc'⟩
   ·obtain ⟨w2,z2⟩:=I.cell y c' e
    exact ⟨w2,z2.sameBut hs hcc⟩
  ·obtain ⟨e,n,ne,nf,d⟩:=I.pin p hp
   refine ⟨(hs.2 p.1 ?_).trans e,n,ne,nf,d⟩
   intro q
   rw [q,hoc] at e
   have q':oc=p.2:=Option.some.inj e
   exact d w' (by rw [<-q'];exact hocd)
theorem ap4 {M:Model}{A:Around}{E:Value->Shared->Prop}{i:Nat}{x:Str}{v:V}{u:Value}{Q:Unit->Shared->Prop}(I:Inv X pins σ H s)(hN:X.N.Nodup)(hi:X.N[i]?=some x)(hx:Loc X.env.scope x)(r:t9 v u)
  (h:∀ s',Inv X pins (σ.set i (some v)) H s'->Q () s') (hf:X.fn x=true\/X.env.scope.names.lookup x=some .local:=by first | exact .inl rfl | exact .inr rfl | assumption):wpAny M A (storeName X.env x u) Q E s :=
 ac0 I hN hi hx r (fun s' I' _=>h s' I') hf
theorem Inv.call' {s':Shared}{ch:List Addr}(I:Inv X pins σ H s)(ho:s'.os=s.os)(u:Un (frs X.stack) ch H H' s.heap s'.heap)(hok:HOk X.prog X.w H' s'.heap)(hg:AllBare s'.gens)
  (hch:∀ b∈ch,(b∈X.ex\/X.s_0.heap.objs.size<=b)/\b≠X.env.locals/\(∀ x c,X.env.cells.lookup x=some c->c≠b)/\∀ p∈X.pn++pins,p.1≠b):Inv X pins σ H' s':=by
 obtain ⟨h',g',d',t',o'⟩:=s'
 have e:o'=s.os:=ho
 subst e
 exact I.call (g':=g') (t':=t') (d':=d') u hok hg hch
end
abbrev XK:=Value->Option Addr->Hp->Prop
abbrev St:=List (Option V)
abbrev VK:=V->Hp->Prop
abbrev TE:=St->Hp->VK->Prop
abbrev TT:=St->Hp->(Bool->Hp->Prop)->Prop
abbrev TA:=St->Hp->(List V->Hp->Prop)->Prop
structure aE0 where
 nx:St->Hp->Prop
 rt:VK
 bk:St->Hp->Prop:=fun _ _=>False
 ct:St->Hp->Prop:=fun _ _=>False
abbrev TS:=aE0->St->Hp->Prop
def EP (X:Cx)(pins:List (Addr×Obj))(σ:St)(Q:VK)(u:Value)(s':Shared):Prop:=∃ v H',Inv X pins σ H' s'/\t9 v u/\Q v H'
def TP (X:Cx)(pins:List (Addr×Obj))(σ:St)(Q:Bool->Hp->Prop)(b:Bool)(s':Shared):Prop:=∃ H',Inv X pins σ H' s'/\Q b H'
def AP (X:Cx)(pins:List (Addr×Obj))(σ:St)(Q:List V->Hp->Prop)(us:List Value)(s':Shared):Prop:=∃ vs H',Inv X pins σ H' s'/\n9 vs us/\Q vs H'
def SP (X:Cx)(pins:List (Addr×Obj))(D:aE0)(f:Flow)(s':Shared):Prop :=
 match f with
 | .next=>∃ σ' H',Inv X pins σ' H' s'/\D.nx σ' H'
 | .brk=>∃ σ' H',Inv X pins σ' H' s'/\D.bk σ' H'
 | .cont=>∃ σ' H',Inv X pins σ' H' s'/\D.ct σ' H'
 | .ret u=>∃ v σ' H',Inv X pins σ' H' s'/\t9 v u/\D.rt v H'
def PE (X:Cx)(e:Expr)(t:TE):Prop :=
 ∀ (pins:List (Addr×Obj)) (s:Shared) (σ:St) (H:Hp) (Q:VK),Inv X pins σ H s->t σ H Q->wpAny (model X.prog X.w) X.A (eval e X.env) (EP X pins σ Q) X.xe s
def PT (X:Cx)(e:Expr)(t:TT):Prop :=
 ∀ (pins:List (Addr×Obj)) (s:Shared) (σ:St) (H:Hp) (Q:Bool->Hp->Prop),Inv X pins σ H s->t σ H Q->wpAny (model X.prog X.w) X.A (isTrue e X.env (eval e X.env)) (TP X pins σ Q) X.xe s
def PW (X:Cx)(e:Expr)(t:TT):Prop :=
 ∀ (whole:Sem Value) (pins:List (Addr×Obj)) (s:Shared) (σ:St) (H:Hp) (Q:Bool->Hp->Prop),Inv X pins σ H s->t σ H Q->wpAny (model X.prog X.w) X.A (isTrue e X.env whole) (TP X pins σ Q) X.xe s
theorem PW.pt {X:Cx}{e:Expr}{t:TT}(h:PW X e t):PT X e t:=h _
def PA (X:Cx)(es:List Expr)(t:TA):Prop :=
 ∀ (pos:Pos) (pins:List (Addr×Obj)) (s:Shared) (σ:St) (H:Hp) (Q:List V->Hp->Prop),Inv X pins σ H s->t σ H Q->wpAny (model X.prog X.w) X.A (spliced (backTo pos (starEach es X.env))) (AP X pins σ Q) X.xe s
def PS (X:Cx)(st:Stmt)(t:TS):Prop :=
 ∀ (pins:List (Addr×Obj)) (s:Shared) (σ:St) (H:Hp) (D:aE0),Inv X pins σ H s->t D σ H->wpAny (model X.prog X.w) X.A (exec st X.env) (SP X pins D) X.xe s
def PSs (X:Cx)(st:List Stmt)(t:TS):Prop :=
 ∀ (pins:List (Addr×Obj)) (s:Shared) (σ:St) (H:Hp) (D:aE0),Inv X pins σ H s->t D σ H->wpAny (model X.prog X.w) X.A (execs st X.env) (SP X pins D) X.xe s
theorem thn {α:Type}{t:Sem α}{Q Q':α->Shared->Prop}{M:Model}{A:Around}{E:Value->Shared->Prop}{s:Shared}(h:wpAny M A t Q E s)(hQ:∀ a s,Q a s->Q' a s):wpAny M A t Q' E s:=wpAny_mono h hQ fun _ _ x=>x
end L2
namespace L2
open PySem PySem.Spec PyProof.Rows
section
variable {X:Cx}
theorem bin {a b:Expr}{ta tb:TE}(ha:PE X a ta)(hb:PE X b tb){pins:List (Addr×Obj)}{s:Shared}{σ:St}{H:Hp}{R:V->V->Hp->Prop}(I:Inv X pins σ H s)(h:ta σ H fun x H1=>tb σ H1 fun y H2=>R x y H2)
  {α:Type}{Q:α->Shared->Prop}{f:Value->Value->Sem α}
  (hf:∀ v u s2 x y H2,Inv X pins σ H2 s2->t9 x v->t9 y u->R x y H2->wpAny (model X.prog X.w) X.A (f v u) Q X.xe s2) :
  wpAny (model X.prog X.w) X.A (eval a X.env) (fun v s₁=>wpAny (model X.prog X.w) X.A (eval b X.env) (fun u s₂=>wpAny (model X.prog X.w) X.A (f v u) Q X.xe s₂) X.xe s₁) X.xe s:=by
 refine thn (ha pins s σ H _ I h) fun v s1 ⟨x,H1,I1,r1,q1⟩=>?_
 refine thn (hb pins s1 σ H1 _ I1 q1) fun u s2 ⟨y,H2,I2,r2,q2⟩=>?_
 exact hf v u s2 x y H2 I2 r1 r2 q2
def J9 (i:Nat):TE:=fun σ H Q=>∃ v,σ[i]?=some (some v)/\Q v H
def tC (v:V):TE:=fun _ H Q=>Q v H
theorem bi2 {i:Nat}{x:Str}{pos:Pos}(hN:X.N[i]?=some x)(hv:Vis X.env.scope x)(hd:(x == ("__debug__" : Str))=false:=by decide)(hcd:(x == ("__classdict__" : Str))=false:=by decide):PE X (.Name x pos) (J9 i):=by
 intro pins s σ H Q I h
 obtain ⟨v,e,h⟩:=h
 obtain ⟨m,hn,hl⟩:=I.loc
 obtain ⟨u,r,l⟩:=hl i x v hN e hv
 have fin:EP X pins σ Q u s:=⟨v,H,I,r,h⟩
 rcases l with ⟨hk,hm⟩ | ⟨hk,c,hc,hcell⟩
 ·exact wpAny_Name (wpAny_loadName_local I.ok.kind hk hn hm fin) hd
 ·rcases hk with hk | hk
  ·exact wpAny_Name (wpAny_loadName_cell I.ok.kind hk hc hcell fin) hd
  ·exact wpAny_Name (wpAny_loadName_free I.ok.kind hk hc hcell fin hcd) hd
theorem g7 {i j pos}:PE X (.Constant (.int i) j pos) (tC (.int i)):=fun _ _ _ H _ I h=>wpAny_Constant_int ⟨.int i,H,I.tok _,⟨_,rfl⟩,h⟩
theorem aG2 {b j pos}:PE X (.Constant (.bool b) j pos) (tC (.bl b)):=fun _ _ _ H _ I h=>Constant_bool ⟨.bl b,H,I,rfl,h⟩
theorem bF3 {j pos}:PE X (.Constant .none j pos) (tC .non):=fun _ _ _ H _ I h=>Constant_none ⟨.non,H,I,rfl,h⟩
theorem i9 {x j pos}:PE X (.Constant (.str x) j pos) (tC (.str x)):=fun _ _ _ H _ I h=>Calls.Constant_str ⟨.str x,H,I.tok _,⟨_,rfl⟩,h⟩
def Gl (X:Cx)(x:Str):Prop:=X.env.kindOf x=some .globalImplicit
theorem X6 {E:Value->Shared->Prop}{pins:List (Addr×Obj)}{s:Shared}{σ:St}{H:Hp}{x:Str}{u:Value}{pos:Pos}{Q:Value->Shared->Prop}(I:Inv X pins σ H s)(hg:Gl X x)(hm:X.mg x=some u)(h:Q u s)
  (hd:(x == ("__debug__" : Str))=false:=by decide):wpAny (model X.prog X.w) X.A (eval (.Name x pos) X.env) Q E s :=
 Calls.Name_function_global I.ok.kind hg (Calls.loadGlobal_global (by rw [I.ok.glob];exact I.mod.glob.keeps I.bk) hm h) hd
theorem aC4 {E:Value->Shared->Prop}{pins:List (Addr×Obj)}{s:Shared}{σ:St}{H:Hp}{x:Str}{u:Value}{pos:Pos}{Q:Value->Shared->Prop}(I:Inv X pins σ H s)(hg:Gl X x)(hm:X.mg x=none)(hv:bootBuiltins x=some u)(h:Q u s)
  (hn:x≠"__name__":=by decide) (hd:(x == ("__debug__" : Str))=false:=by decide):wpAny (model X.prog X.w) X.A (eval (.Name x pos) X.env) Q E s:=by
 obtain ⟨mb,h1,h2⟩:=I.mod.blt
 exact Calls.Name_function_global I.ok.kind hg (Calls.loadGlobal_builtin (by rw [I.ok.glob];exact I.mod.glob.keeps I.bk) hm (by rw [I.ok.blt];exact h1.keeps I.bk) ((h2 x hn).trans hv) h) hd
theorem A6 {x:Str}{v:V}{u:Value}{pos:Pos}(hg:Gl X x)(hm:X.mg x=some u)(r:t9 v u)(hd:(x == ("__debug__" : Str))=false:=by decide):PE X (.Name x pos) (tC v) :=
 fun _ _ _ H _ I h=>X6 I hg hm ⟨v,H,I,r,h⟩ hd
variable {a b:Expr}{ta tb:TE}{pos:Pos}
def PC (X:Cx)(op:CmpOp)(a b:Expr)(t:TE):Prop :=
 ∀ (pins:List (Addr×Obj)) (s:Shared) (σ:St) (H:Hp) (Q:VK),Inv X pins σ H s->t σ H Q ->
  wpAny (model X.prog X.w) X.A (eval a X.env) (fun v s₁=>wpAny (model X.prog X.w) X.A (eval b X.env) (fun u s₂=>wpAny (model X.prog X.w) X.A (compareOp op v u) (EP X pins σ Q) X.xe s₂) X.xe s₁) X.xe s
def tB (t:TE):TT:=fun σ H Q=>t σ H fun x H1=>∃ c,x=.bl c/\Q c H1
theorem bh7 {op:CmpOp}{t:TE}(h:PC X op a b t)(h1:behindInMarks op b=false:=by first | exact nobehind _ (by decide) (by decide) | rfl):PT X (.Compare a [op] [b] pos) (tB t):=by
 intro pins s σ H Q I hw
 refine wpAny_isTrue_Compare1 (thn (h pins s σ H _ I hw) fun v s1 h1=>thn h1 fun u s2 h2=>thn h2 fun c s3 ⟨x,H1,I1,r1,q1⟩=>?_) h1
 obtain ⟨d,rfl,q⟩:=q1
 cases r1
 exact wpAny_truthy_bool ⟨H1,I1,q⟩
theorem B7 {e:Expr}{t:TE}(h:PE X e t)(he:∀ whole,isTrue e X.env whole=(do let v ← whole;standAt e.pos;holding [v] (truthy v)):=by intro _;rfl):PT X e (tB t):=by
 intro pins s σ H Q I hw
 refine isTrue_plain (thn (h pins s σ H _ I hw) fun v s1 ⟨x,H1,I1,r1,q1⟩=>?_) (he _)
 obtain ⟨d,rfl,q⟩:=q1
 cases r1
 exact wpAny_truthy_bool ⟨H1,I1,q⟩
variable {tA tB':TT}{rest:List Expr}
def bT6 (t u:TT):TT:=fun σ H Q=>t σ H fun c H1=>if c=true then u σ H1 Q else Q false H1
def tOr (t u:TT):TT:=fun σ H Q=>t σ H fun c H1=>if c=true then Q true H1 else u σ H1 Q
def bS8 (t:TT):TT:=fun σ H Q=>t σ H fun c H1=>Q (!c) H1
theorem ao0 (ha:PT X a tA):PW X (.BoolOp .And [a] pos) tA:=by
 intro wh pins s σ H Q I h
 refine isTrue_and (thn (ha pins s σ H Q I h) fun c s1 e=>?_)
 cases c with
 | true=>exact isTrue_and_nil e
 | false=>exact e
theorem aq5 (ha:PT X a tA):PW X (.BoolOp .Or [a] pos) tA:=by
 intro wh pins s σ H Q I h
 refine isTrue_or (thn (ha pins s σ H Q I h) fun c s1 e=>?_)
 cases c with
 | false=>exact isTrue_or_nil e
 | true=>exact e
theorem aB6 (ha:PT X a tA)(hb:PW X (.BoolOp .And (b::rest) pos) tB'):PW X (.BoolOp .And (a::b::rest) pos) (bT6 tA tB'):=by
 intro wh pins s σ H Q I h
 refine isTrue_and (thn (ha pins s σ H _ I h) fun c s1 ⟨H1,I1,q1⟩=>?_)
 cases c with
 | true=>exact hb wh pins s1 σ H1 Q I1 q1
 | false=>exact ⟨H1,I1,q1⟩
theorem aw4 (ha:PT X a tA)(hb:PW X (.BoolOp .Or (b::rest) pos) tB'):PW X (.BoolOp .Or (a::b::rest) pos) (tOr tA tB'):=by
 intro wh pins s σ H Q I h
 refine isTrue_or (thn (ha pins s σ H _ I h) fun c s1 ⟨H1,I1,q1⟩=>?_)
 cases c with
 | true=>exact ⟨H1,I1,q1⟩
 | false=>exact hb wh pins s1 σ H1 Q I1 q1
theorem aq6 (ha:PT X a tA):PT X (.UnaryOp .Not a pos) (bS8 tA):=by
 intro pins s σ H Q I h
 exact isTrue_not (ha pins s σ H (fun c H1=>Q (!c) H1) I h)
def bN3 (ta tb:TE):TE:=fun σ H Q=>ta σ H fun x H1=>∃ c,x=.bl c/\if c=true then tb σ H1 Q else Q (.bl false) H1
def bM7 (ta tb:TE):TE:=fun σ H Q=>ta σ H fun x H1=>∃ c,x=.bl c/\if c=true then Q (.bl true) H1 else tb σ H1 Q
def bM8 (ta:TE):TE:=fun σ H Q=>ta σ H fun x H1=>∃ c,x=.bl c/\Q (.bl (!c)) H1
theorem aB8 {op}{t:TE}(h:PE X a t):PE X (.BoolOp op [a] pos) t:=fun pins s σ H Q I hw=>BoolOp_one (h pins s σ H Q I hw)
theorem bF5 (ha:PE X a ta)(hb:PE X (.BoolOp .And (b::rest) pos) tb):PE X (.BoolOp .And (a::b::rest) pos) (bN3 ta tb):=by
 intro pins s σ H Q I h
 refine BoolOp_and (thn (ha pins s σ H _ I h) fun v s1 ⟨x,H1,I1,r1,q1⟩=>?_)
 obtain ⟨c,rfl,q1⟩:=q1
 cases r1
 refine wpAny_truthy_bool ?_
 cases c with
 | true=>exact hb pins s1 σ H1 Q I1 q1
 | false=>exact ⟨.bl false,H1,I1,rfl,q1⟩
theorem aS2 (ha:PE X a ta)(hb:PE X (.BoolOp .Or (b::rest) pos) tb):PE X (.BoolOp .Or (a::b::rest) pos) (bM7 ta tb):=by
 intro pins s σ H Q I h
 refine BoolOp_or (thn (ha pins s σ H _ I h) fun v s1 ⟨x,H1,I1,r1,q1⟩=>?_)
 obtain ⟨c,rfl,q1⟩:=q1
 cases r1
 refine wpAny_truthy_bool ?_
 cases c with
 | false=>exact hb pins s1 σ H1 Q I1 q1
 | true=>exact ⟨.bl true,H1,I1,rfl,q1⟩
theorem bF2 (ha:PE X a ta):PE X (.UnaryOp .Not a pos) (bM8 ta):=by
 intro pins s σ H Q I h
 refine UnaryOp_ (thn (ha pins s σ H _ I h) fun v s1 ⟨x,H1,I1,r1,q1⟩=>?_)
 obtain ⟨c,rfl,q1⟩:=q1
 cases r1
 exact not_of (wpAny_truthy_bool ⟨.bl (!c),H1,I1,rfl,q1⟩)
def tIf (t:TT)(ta tb:TE):TE:=fun σ H Q=>t σ H fun c H1=>if c=true then ta σ H1 Q else tb σ H1 Q
theorem aG0 {c:Expr}(hc:PT X c tA)(ha:PE X a ta)(hb:PE X b tb):PE X (.IfExp c a b pos) (tIf tA ta tb):=by
 intro pins s σ H Q I h
 refine wpAny_IfExp (thn (hc pins s σ H _ I h) fun d s1 ⟨H1,I1,q1⟩=>?_)
 cases d with
 | true=>exact ha pins s1 σ H1 Q I1 q1
 | false=>exact hb pins s1 σ H1 Q I1 q1
end
end L2
namespace L2
open PySem PySem.Spec PyProof.Rows
def SqL (K:W.Frag)(H:Hp)(a:Addr)(xs:List V):Prop :=
 Rd H a (.lst xs) \/
  ∃ (o:Obj) (its:Array Value) (n:Nat),K.lookup a=some o/\o.cls=.type "list"/\o.dict=none/\o.data=.seq its n/\its.size<=sizeLine/\n9 xs its.toList
def SqT (K:W.Frag)(H:Hp)(a:Addr)(xs:List V):Prop :=
 Rd H a (.tup xs) \/
  ∃ (o:Obj) (its:Array Value) (n:Nat),K.lookup a=some o/\o.cls=.type "tuple"/\o.data=.seq its n/\its.size<=sizeLine/\n9 xs its.toList
def bM0:Value->Option V
 | .none=>some .non
 | .bool b=>some (.bl b)
 | .int i _=>some (.int i)
 | .str x _=>some (.str x)
 | .bytes b _=>some (.byt b)
 | .float b _=>some (.flt b)
 | .ref a=>some (.ref a)
 | .type n=>some (.ty n)
 | _=>none
theorem t9.abs {x:V}{u:Value}(r:t9 x u):bM0 u=some x:=by
 cases x with
 | non=>cases r;rfl
 | bl _=>cases r;rfl
 | int _=>obtain ⟨t,rfl⟩:=r;rfl
 | str _=>obtain ⟨t,rfl⟩:=r;rfl
 | byt _=>obtain ⟨t,rfl⟩:=r;rfl
 | flt _=>obtain ⟨t,rfl⟩:=r;rfl
 | ref _=>cases r;rfl
 | ty _=>cases r;rfl
theorem t9.inj {x y:V}{u:Value}(r:t9 x u)(q:t9 y u):x=y:=Option.some.inj (r.abs.symm.trans q.abs)
theorem n9.inj:∀ {xs ys:List V}{us:List Value},n9 xs us->n9 ys us->xs=ys
 | _,_,_,.nil,.nil=>rfl
 | _,_,_,.cons r t,.cons r' t'=>by rw [r.inj r',n9.inj t t']
section
variable {X:Cx}{pins:List (Addr×Obj)}{σ:St}{H:Hp}{s:Shared}{a:Addr}{xs ys:List V}
theorem SqL.of {K:W.Frag}(h:H a=some (.lst xs)):SqL K H a xs:=.inl (.inl h)
theorem SqT.of {K:W.Frag}(h:H a=some (.tup xs)):SqT K H a xs:=.inl (.inl h)
theorem Inv.list (I:Inv X pins σ H s)(h:SqL X.K H a xs):∃ its:List Value,n9 xs its/\PlainL s.heap a its.toArray/\xs.length<=sizeLine:=by
 rcases h with h | ⟨o,its,n,hk,hc,hd,hs,hz,r⟩
 ·obtain ⟨z,its,n,r,e⟩:=h.ok I.hok
  exact ⟨its,r,⟨_,n,e,rfl,rfl,rfl⟩,z⟩
 ·refine ⟨its.toList,r,⟨o,n,I.kIn a o hk,hc,hd,by simpa using hs⟩,?_⟩
  have e:=r.length
  simp only [Array.length_toList] at e
  omega
theorem Inv.tuple (I:Inv X pins σ H s)(h:SqT X.K H a xs):∃ its:List Value,n9 xs its/\IsTup s.heap a its.toArray/\xs.length<=sizeLine:=by
 rcases h with h | ⟨o,its,n,hk,hc,hs,hz,r⟩
 ·obtain ⟨z,its,r,p⟩:=h.ok I.hok
  exact ⟨its,r,p,z⟩
 ·refine ⟨its.toList,r,⟨o,I.kIn a o hk,hc,n,by simpa using hs⟩,?_⟩
  have e:=r.length
  simp only [Array.length_toList] at e
  omega
theorem Inv.list_inj (I:Inv X pins σ H s)(h:SqL X.K H a xs)(h':SqL X.K H a ys):xs=ys:=by
 obtain ⟨its,r,⟨o,n,e,_,_,d⟩,_⟩:=I.list h
 obtain ⟨its',r',⟨o',n',e',_,_,d'⟩,_⟩:=I.list h'
 rw [e] at e';cases e'
 rw [d] at d'
 injection d' with d1 _
 have:its=its':=by simpa using congrArg Array.toList d1
 subst this
 exact r.inj r'
theorem Inv.tuple_inj (I:Inv X pins σ H s)(h:SqT X.K H a xs)(h':SqT X.K H a ys):xs=ys:=by
 obtain ⟨its,r,⟨o,e,_,n,d⟩,_⟩:=I.tuple h
 obtain ⟨its',r',⟨o',e',_,n',d'⟩,_⟩:=I.tuple h'
 rw [e] at e';cases e'
 rw [d] at d'
 injection d' with d1 _
 have:its=its':=by simpa using congrArg Array.toList d1
 subst this
 exact r.inj r'
end
section
variable {X:Cx}{st:Stmt}{rest:List Stmt}{t u:TS}{e:Expr}{te:TE}{pos:Pos}
def bz5:TS:=fun D σ H=>D.nx σ H
def bS7 (t u:TS):TS:=fun D σ H=>t { D with nx:=u D } σ H
theorem j3:PSs X [] bz5:=fun _ _ σ H _ I h=>wpAny_execs_nil ⟨σ,H,I,h⟩
theorem c6 (h1:PS X st t)(h2:PSs X rest u):PSs X (st::rest) (bS7 t u):=by
 intro pins s σ H D I h
 refine wpAny_execs_cons (thn (h1 pins s σ H { D with nx:=u D } I h) fun f s1 q=>?_)
 cases f with
 | next =>
  obtain ⟨σ',H',I',q⟩:=q
  exact h2 pins s1 σ' H' D I' q
 | ret v=>exact q
 | brk=>exact q
 | cont=>exact q
theorem d5 (h1:PS X st t):PSs X [st] t:=by
 intro pins s σ H D I h
 refine wpAny_execs_cons (thn (h1 pins s σ H D I h) fun f s1 q=>?_)
 cases f with
 | next=>exact wpAny_execs_nil q
 | ret v=>exact q
 | brk=>exact q
 | cont=>exact q
def bC8:TS:=fun D σ H=>D.bk σ H
theorem bh9:PS X (.Break pos) bC8:=fun _ _ σ H _ I h=>wpAny_Break ⟨σ,H,I,h⟩
theorem Inv.quiet {pins:List (Addr×Obj)}{σ:St}{H:Hp}{s:Shared}(I:Inv X pins σ H s):interactive X.env=false:=by simp [interactive,I.ok.kind]
def bz7 (te:TE):TS:=fun D σ H=>te σ H fun _ H1=>D.nx σ H1
theorem i8 (he:PE X e te)(hs:swapsWith e none pos.line X.env=pure false:=by rfl):PS X (.Expr e pos) (bz7 te):=by
 intro pins s σ H D I h
 exact wpAny_Expr_any (thn (he pins s σ H _ I h) fun v s1 ⟨x,H1,I1,r1,q1⟩=>⟨σ,H1,I1,q1⟩) I.quiet hs
def aV9 (te:TE):TS:=fun D σ H=>te σ H D.rt
theorem i4 (he:PE X e te):PS X (.Return (some e) pos) (aV9 te):=by
 intro pins s σ H D I h
 exact wpAny_Return_some (thn (he pins s σ H _ I h) fun v s1 ⟨x,H1,I1,r1,q1⟩=>⟨x,σ,H1,I1,r1,q1⟩)
def bN0 (c:TT)(t u:TS):TS:=fun D σ H=>c σ H fun b H1=>if b=true then t D σ H1 else u D σ H1
theorem q0 {c:Expr}{a b:List Stmt}{tc:TT}(hc:PT X c tc)(ha:PSs X a t)(hb:PSs X b u):PS X (.If c a b pos) (bN0 tc t u):=by
 intro pins s σ H D I h
 refine wpAny_If (thn (hc pins s σ H _ I h) fun d s1 ⟨H1,I1,q1⟩=>?_)
 cases d with
 | true=>exact ha pins s1 σ H1 D I1 q1
 | false=>exact hb pins s1 σ H1 D I1 q1
end
abbrev TG:=V->St->Hp->(St->Hp->Prop)->Prop
abbrev TGs:=List V->St->Hp->(St->Hp->Prop)->Prop
def PG (X:Cx)(target:Expr)(t:TG):Prop :=
 ∀ (pins:List (Addr×Obj)) (s:Shared) (σ:St) (H:Hp) (v:V) (u:Value) (Q:St->Hp->Prop),Inv X pins σ H s->t9 v u->t v σ H Q ->
  wpAny (model X.prog X.w) X.A (assign target X.env u) (fun _ s'=>∃ σ' H',Inv X pins σ' H' s'/\Q σ' H') X.xe s
def PGs (X:Cx)(ts:List Expr)(t:TGs):Prop :=
 ∀ (pins:List (Addr×Obj)) (s:Shared) (σ:St) (H:Hp) (vs:List V) (us:List Value) (Q:St->Hp->Prop),Inv X pins σ H s->n9 vs us->t vs σ H Q ->
  wpAny (model X.prog X.w) X.A (assignInOrder ((assignEach ts X.env).map (·.2)) us) (fun _ s'=>∃ σ' H',Inv X pins σ' H' s'/\Q σ' H') X.xe s
abbrev TIp:=V->V->Hp->VK->Prop
def PIp (X:Cx)(op:Operator)(t:TIp):Prop :=
 ∀ (pins:List (Addr×Obj)) (s:Shared) (σ:St) (H:Hp) (x y:V) (v u:Value) (Q:VK),Inv X pins σ H s->t9 x v->t9 y u->t x y H Q ->
  wpAny (model X.prog X.w) X.A (inplaceOp op v u) (EP X pins σ Q) X.xe s
section
variable {X:Cx}{pos:Pos}
def ax9 (i:Nat):TG:=fun v σ H Q=>Q (σ.set i (some v)) H
theorem B6 {i:Nat}{x:Str}(hN:X.N.Nodup)(hi:X.N[i]?=some x)(hx:Loc X.env.scope x)(hf:X.fn x=true\/X.env.scope.names.lookup x=some .local:=by first | exact .inl rfl | exact .inr rfl | assumption):PG X (.Name x pos) (ax9 i):=by
 intro pins s σ H v u Q I r h
 exact wpAny_assign_Name (ap4 I hN hi hx r (fun s' I'=>⟨_,H,I',h⟩) hf)
def bV1:TGs:=fun vs σ H Q=>vs=[]/\Q σ H
def bR6 (t:TG)(u:TGs):TGs:=fun vs σ H Q=>∃ v r,vs=v::r/\t v σ H fun σ' H'=>u r σ' H' Q
theorem bs0:PGs X [] bV1:=by
 intro pins s σ H vs us Q I r h
 obtain ⟨e,h⟩:=h
 subst e
 cases r
 exact assignInOrder_nil ⟨σ,H,I,h⟩
theorem aF9 {e:Expr}{es:List Expr}{t:TG}{u:TGs}(h1:PG X e t)(h2:PGs X es u)
  (hs:(assignEach (e::es) X.env).map (·.2)=assign e X.env::(assignEach es X.env).map (·.2):=by rfl):PGs X (e::es) (bR6 t u):=by
 intro pins s σ H vs us Q I r h
 obtain ⟨v,vr,e1,h⟩:=h
 subst e1
 cases r with
 | cons r rr =>
  rw [hs]
  refine assignInOrder_cons (thn (h1 pins s σ H _ _ _ I r h) fun _ s1 ⟨σ1,H1,I1,q1⟩=>?_)
  exact h2 pins s1 σ1 H1 _ _ Q I1 rr q1
def bV0 (K:W.Frag)(n:Nat)(t:TGs):TG:=fun v σ H Q=>∃ a xs,v=.ref a/\SqT K H a xs/\xs.length=n/\t xs σ H Q
theorem bF1 {es:List Expr}{k:Nat}{t:TGs}{n:Nat}(hc:X.calm=true)(h:PGs X es t)
  (hn:(assignEach es X.env).length=n:=by rfl) (hst:(assignEach es X.env).findIdx? (·.1)=none:=by rfl):PG X (.Tuple es k pos) (bV0 X.K n t):=by
 intro pins s σ H v u Q I r hw
 obtain ⟨a,xs,e1,hq,hl,hw⟩:=hw
 subst e1
 cases r
 obtain ⟨its,rv,ht,hz⟩:=I.tuple hq
 refine assign_Tuple_tuple (I.ok.hd hc) ht (by simp [hn,<-hl,rv.length]) hst fun h' hx=>?_
 have I1:Inv X pins σ H { s with heap:=h' }:=I.kept (t':=s.toks) fun b o e=>hx b o (Nat.ne_of_lt (Heap.lt_size e)) e
 exact h pins _ σ H xs _ Q I1 (by simpa using rv) hw
def bC9 (te:TE)(g:TG):TS:=fun D σ H=>te σ H fun x H1=>g x σ H1 D.nx
theorem h9 {i:Nat}{x:Str}{e:Expr}{te:TE}{pos':Pos}(hN:X.N.Nodup)(hi:X.N[i]?=some x)(hx:Loc X.env.scope x)(he:PE X e te)(hs:swapsWith e (some (.Name x pos')) pos.line X.env=pure false:=by rfl)(hf:X.fn x=true\/X.env.scope.names.lookup x=some .local:=by first | exact .inl rfl | exact .inr rfl | assumption) :
  PS X (.Assign [.Name x pos'] e pos) (bC9 te (ax9 i)):=by
 intro pins s σ H D I h
 refine wpAny_Assign_Name (thn (he pins s σ H _ I h) fun v s1 ⟨y,H1,I1,r1,q1⟩=>?_) hs
 exact ap4 I1 hN hi hx r1 (fun s2 I2=>⟨_,H1,I2,q1⟩) hf
def bN2 (i:Nat)(te:TE)(ti:TIp):TS:=fun D σ H=>∃ x,σ[i]?=some (some x)/\te σ H fun y H1=>ti x y H1 fun z H2=>D.nx (σ.set i (some z)) H2
theorem aa3 {i:Nat}{x:Str}{e:Expr}{te:TE}{op:Operator}{ti:TIp}{pos':Pos}(hN:X.N.Nodup)(hi:X.N[i]?=some x)(hx:Loc X.env.scope x)(he:PE X e te)(ho:PIp X op ti)(hf:X.fn x=true\/X.env.scope.names.lookup x=some .local:=by first | exact .inl rfl | exact .inr rfl | assumption) :
  PS X (.AugAssign (.Name x pos') op e pos) (bN2 i te ti):=by
 intro pins s σ H D I h
 obtain ⟨v,e1,h⟩:=h
 obtain ⟨m,hn,hl⟩:=I.loc
 have vis:Vis X.env.scope x:=by rcases hx with k | k;exact .inl k;exact .inr (.inl k)
 obtain ⟨u,r,l⟩:=hl i x v hi e1 vis
 refine wpAny_AugAssign_Name ?_
 have go:wpAny (model X.prog X.w) X.A (eval e X.env) (fun w s₂=>wpAny (model X.prog X.w) X.A (inplaceOp op u w) (fun r s₃=>wpAny (model X.prog X.w) X.A (storeName X.env x r) (fun _=>SP X pins D .next) X.xe s₃) X.xe s₂) X.xe s:=by
  refine thn (he pins s σ H _ I h) fun w s1 ⟨y,H1,I1,r1,q1⟩=>?_
  refine thn (ho pins s1 σ H1 v y u w _ I1 r r1 q1) fun z s2 ⟨zv,H2,I2,r2,q2⟩=>?_
  exact ap4 I2 hN hi hx r2 (fun s3 I3=>⟨_,H2,I3,q2⟩) hf
 rcases l with ⟨hk,hm⟩ | ⟨hk,c,hc,hcell⟩
 ·exact wpAny_loadName_local I.ok.kind hk hn hm go
 ·rcases hk with hk | hk
  ·exact wpAny_loadName_cell I.ok.kind hk hc hcell go
  ·rcases hx with k | k
   ·have:X.env.scope.names.lookup x=some .free:=hk
    rw [k] at this;cases this
   ·have:X.env.scope.names.lookup x=some .free:=hk
    rw [k] at this;cases this
def ipI (f:Int->Int->Int):TIp:=fun x y H Q=>∃ i j,x=.int i/\y=.int j/\Q (.int (f i j)) H
theorem aN9:PIp X .Add (ipI fun i j=>i+j):=by
 intro pins s σ H x y v u Q I r1 r2 h
 obtain ⟨i,j,e1,e2,q⟩:=h
 subst e1;subst e2
 obtain ⟨t,rfl⟩:=r1
 obtain ⟨t',rfl⟩:=r2
 exact iadd_int ⟨.int _,H,I.tok _,⟨_,rfl⟩,q⟩
end
section
variable {X:Cx}{pos:Pos}
def be0 (c:TT)(tb:TS):TS:=fun D σ H=>∃ W:Nat->St->Hp->Prop,(∃ m,W m σ H)/\∀ m σ H,W m σ H ->
 c σ H fun b H1=>if b=true then ∃ N:St->Hp->Prop,(∀ σ' H',N σ' H'->∃ m',m' < m/\W m' σ' H')/\tb { D with nx:=N,ct:=N,bk:=D.nx } σ H1 else D.nx σ H1
theorem U3 {c:Expr}{body:List Stmt}{tc:TT}{tb:TS}(hp:PassesOwn (model X.prog X.w) X.A X.env X.xe)(hc:PT X c tc)(hb:PSs X body tb):PS X (.While c body [] pos) (be0 tc tb):=by
 intro pins s σ H D I h
 obtain ⟨W,⟨m0,w0⟩,turn⟩:=h
 refine wpAny_While (codeAny_whileLoop (fun n s'=>∃ σ' H',Inv X pins σ' H' s'/\W n σ' H') ?_ m0 ⟨σ,H,I,w0⟩)
 rintro n s1 ⟨σ1,H1,I1,w1⟩
 refine wpAny_passesOwn hp (thn (hc pins s1 σ1 H1 _ I1 (turn n σ1 H1 w1)) fun b s2 ⟨H2,I2,q2⟩=>?_)
 cases b with
 | true =>
  obtain ⟨N,hN,q2⟩:=q2
  rw [if_pos rfl]
  refine wpAny_passesOwn hp (thn (hb pins s2 σ1 H2 _ I2 q2) fun f s3 q3=>?_)
  cases f with
  | next =>
   obtain ⟨σ3,H3,I3,n3⟩:=q3
   obtain ⟨m',hm,w3⟩:=hN σ3 H3 n3
   exact ⟨m',hm,σ3,H3,I3,w3⟩
  | cont =>
   obtain ⟨σ3,H3,I3,n3⟩:=q3
   obtain ⟨m',hm,w3⟩:=hN σ3 H3 n3
   exact ⟨m',hm,σ3,H3,I3,w3⟩
  | brk=>exact q3
  | ret v=>exact q3
 | false =>
  rw [if_neg Bool.false_ne_true]
  exact wpAny_execs_nil ⟨σ1,H2,I2,q2⟩
end
structure It where
 go:Nat->Hp->Prop
 yld:Nat->Hp->V->Hp->Prop
 stop:Nat->Hp->Prop
def Y9 (X:Cx)(pins:List (Addr×Obj))(H:Hp)(b:Addr):Prop :=
 H b=none/\b≠X.env.locals/\b∉X.fs/\(b∈X.ex\/X.s_0.heap.objs.size<=b)/\(∀ x c,X.env.cells.lookup x=some c->c≠b)/\∀ p∈X.pn++pins,p.1≠b
theorem Inv.fpOk {X:Cx}{pins:List (Addr×Obj)}{σ:St}{H H':Hp}{s:Shared}{b:Addr}(I:Inv X pins σ H s)(hb:s.heap.objs.size<=b)(hn:H' b=none):Y9 X pins H' b:=by
 refine ⟨hn,Nat.ne_of_gt (Nat.lt_of_lt_of_le I.lt hb),I.nofs hb,.inr (Nat.le_trans I.sz hb),fun x c e z=>?_,fun p hp z=>?_⟩
 ·obtain ⟨v,q⟩:=I.cell x c e
  exact absurd (Nat.lt_of_lt_of_le q.lt (by rw [z];exact hb)) (Nat.lt_irrefl _)
 ·exact absurd (Nat.lt_of_lt_of_le (Heap.lt_size (I.pin p hp).1) (by rw [z];exact hb)) (Nat.lt_irrefl _)
structure bo8 (P:Program)(w:World)(K:W.Frag)(tg:Expr)(J:It)(fp:List Addr)(it:Addr)(tn:Nat->Heap->Prop):Prop where
 mem:it∈fp
 obj:∀ i h,tn i h->∀ b∈fp,∃ o,h.get? b=some o/\∀ v,o.data≠.cell v
 keep:∀ i h h',tn i h->(∀ b∈fp,∀ o,h.get? b=some o->h'.get? b=some o)->tn i h'
 item:∀ (X:Cx),X.prog=P->X.w=w->X.K=K->X.calm=true->∀ (i:Nat) (pins:List (Addr×Obj)) (s:Shared) (σ:St) (H:Hp) (E:Value->Shared->Prop),Inv X pins σ H s->(∀ b∈fp,Y9 X pins H b)->tn i s.heap->J.go i H ->
  wpAny (model P w) X.A (pyNext (.ref it)) (fun r s1=>∃ u,r=some u /\
   wpAny (model P w) X.A (letOwnedTupleGo tg (.ref it) u) (fun _ s2=>∃ x H',Inv X pins σ H' s2/\t9 x u/\J.yld i H x H'/\tn (i+1) s2.heap/\∀ b∈fp,H' b=none) E s1) E s
 done:∀ (X:Cx),X.prog=P->X.w=w->X.K=K->X.calm=true->∀ (i:Nat) (pins:List (Addr×Obj)) (s:Shared) (σ:St) (H:Hp) (E:Value->Shared->Prop),Inv X pins σ H s->(∀ b∈fp,Y9 X pins H b)->tn i s.heap->J.stop i H ->
  wpAny (model P w) X.A (pyNext (.ref it)) (fun r s1=>r=none/\Inv X pins σ H s1) E s
 self:∀ (A:Around) (i:Nat) (s:Shared) (Q:Value->Shared->Prop) (E:Value->Shared->Prop),tn i s.heap->Q (.ref it) s->wpAny (model P w) A (pyIter (.ref it)) Q E s
abbrev TI:=St->Hp->(It->Hp->Prop)->Prop
def PIE (X:Cx)(pins:List (Addr×Obj))(σ:St)(tg:Expr)(R:It->Hp->Prop)(itv:Value)(s2:Shared):Prop :=
 ∃ (it:Addr) (fp:List Addr) (tn:Nat->Heap->Prop) (J:It) (H':Hp),itv=.ref it/\Inv X pins σ H' s2/\bo8 X.prog X.w X.K tg J fp it tn/\tn 0 s2.heap/\(∀ b∈fp,Y9 X pins H' b)/\R J H'
def PI (X:Cx)(tg iter:Expr)(wi:TI):Prop :=
 ∀ (pins:List (Addr×Obj)) (s:Shared) (σ:St) (H:Hp) (R:It->Hp->Prop),Inv X pins σ H s->wi σ H R ->
  wpAny (model X.prog X.w) X.A (eval iter X.env) (fun v s1=>wpAny (model X.prog X.w) X.A (pyIter v) (PIE X pins σ tg R) X.xe s1) X.xe s
theorem bm6 {M : Model} {A : Around} {E : Value → Shared → Prop} {s : Shared} {tg : Expr} {it : Addr} {u : Value} {o : Obj} {n : String} {vs : Array Value} {Q : Unit → Shared → Prop} (ho : s.heap.get? it = some o) (hc : o.cls = .type n) (hd : o.data = .fields vs)
    (hn : ["enumerate", "zip", "dict_itemiterator", "dict_reverseitemiterator", "odict_iterator", "itertools.zip_longest", "itertools.pairwise"].contains n = false) (hQ : Q () s) : wpAny M A (letOwnedTupleGo tg (.ref it) u) Q E s := by
  unfold letOwnedTupleGo
  cases tg <;> first
    | exact wpAny_pure hQ
    | (cases u <;> first
        | exact wpAny_pure hQ
        | (refine wpAny_bind (wpAny_load ho ?_)
           rw [hc, hd]
           show wpAny M A (if (["enumerate", "zip", "dict_itemiterator", "dict_reverseitemiterator", "odict_iterator", "itertools.zip_longest", "itertools.pairwise"].contains n && vs[0]? == some (rawInt _)) = true then _ else _) Q E s
           rw [if_neg (by intro h; rw [hn, Bool.false_and] at h; cases h)]
           exact wpAny_pure hQ))
def Itl (K:W.Frag)(a:Addr):It :=
 ⟨fun i H=>∃ xs x,SqL K H a xs/\xs[i]?=some x,fun i H x H'=>H'=H/\∀ xs,SqL K H a xs->xs[i]?=some x,fun i H=>∃ xs,SqL K H a xs/\xs.length<=i⟩
def Itt (K:W.Frag)(a:Addr):It :=
 ⟨fun i H=>∃ xs x,SqT K H a xs/\xs[i]?=some x,fun i H x H'=>H'=H/\∀ xs,SqT K H a xs->xs[i]?=some x,fun i H=>∃ xs,SqT K H a xs/\xs.length<=i⟩
theorem aV4 {P:Program}{w:World}{K:W.Frag}{tg:Expr}(a it:Addr):bo8 P w K tg (Itl K a) [it] it (fun i h=>h.IsListIter it a i) where
 mem:=by simp
 obj:=fun i h st b hb=>by
  have e:b=it:=by simpa using hb
  subst e
  obtain ⟨o,e,c,d⟩:=st
  exact ⟨o,e,fun v z=>by rw [d] at z;cases z⟩
 keep:=fun i h h' st k=>st.at fun o e=>k it (by simp) o e
 item:=by
  intro X hP hw hK hc i pins s σ H E I hf st hg
  subst hP hw hK
  obtain ⟨xs,x,hq,hx⟩:=hg
  obtain ⟨its,rv,p,hz⟩:=I.list hq
  obtain ⟨u,hu,ru⟩:=rv.get hx
  obtain ⟨f0,f1,f2,f3,f4,f5⟩:=hf it (by simp)
  refine wpAny_pyNext_list_item st p.isList (x:=u) (by simpa using hu) fun h' st' sb=>?_
  have I1:Inv X pins σ H { s with heap:=h' }:=I.turned (t':=s.toks) (fun b o hb e=>(sb.2 b hb).trans e) f0 f1 f3 f4 f5
  obtain ⟨o,e,c,d⟩:=id st'
  exact ⟨u,rfl,bm6 (s:={ s with heap:=h' }) e c d (by decide) ⟨x,H,I1,ru,⟨rfl,fun ys hy=>by rw [I.list_inj hy hq];exact hx⟩,st',fun b hb=>(hf b hb).1⟩⟩
 done:=by
  intro X hP hw hK hc i pins s σ H E I hf st hg
  subst hP hw hK
  obtain ⟨xs,hq,hx⟩:=hg
  obtain ⟨its,rv,p,hz⟩:=I.list hq
  obtain ⟨f0,f1,f2,f3,f4,f5⟩:=hf it (by simp)
  have hl:=rv.length
  exact wpAny_pyNext_list_end (I.ok.hd hc) st p.isList (by simp;omega) fun h' eb=>⟨rfl,I.turned (t':=s.toks) (fun b o hb e=>eb b o hb e) f0 f1 f3 f4 f5⟩
 self:=fun _ _ _ _ _ st h=>wpAny_pyIter_listiter st h
theorem aK7 {P:Program}{w:World}{K:W.Frag}{tg:Expr}(a it:Addr):bo8 P w K tg (Itt K a) [it] it (fun i h=>h.IsTupleIter it a i) where
 mem:=by simp
 obj:=fun i h st b hb=>by
  have e:b=it:=by simpa using hb
  subst e
  obtain ⟨o,e,c,d⟩:=st
  exact ⟨o,e,fun v z=>by rw [d] at z;cases z⟩
 keep:=fun i h h' st k=>st.at fun o e=>k it (by simp) o e
 item:=by
  intro X hP hw hK hc i pins s σ H E I hf st hg
  subst hP hw hK
  obtain ⟨xs,x,hq,hx⟩:=hg
  obtain ⟨its,rv,p,hz⟩:=I.tuple hq
  obtain ⟨u,hu,ru⟩:=rv.get hx
  obtain ⟨f0,f1,f2,f3,f4,f5⟩:=hf it (by simp)
  refine wpAny_pyNext_tuple_item st (show s.heap.IsTuple a its.toArray from p) (x:=u) (by simpa using hu) fun h' st' sb=>?_
  have I1:Inv X pins σ H { s with heap:=h' }:=I.turned (t':=s.toks) (fun b o hb e=>(sb.2 b hb).trans e) f0 f1 f3 f4 f5
  obtain ⟨o,e,c,d⟩:=id st'
  exact ⟨u,rfl,bm6 (s:={ s with heap:=h' }) e c d (by decide) ⟨x,H,I1,ru,⟨rfl,fun ys hy=>by rw [I.tuple_inj hy hq];exact hx⟩,st',fun b hb=>(hf b hb).1⟩⟩
 done:=by
  intro X hP hw hK hc i pins s σ H E I hf st hg
  subst hP hw hK
  obtain ⟨xs,hq,hx⟩:=hg
  obtain ⟨its,rv,p,hz⟩:=I.tuple hq
  obtain ⟨f0,f1,f2,f3,f4,f5⟩:=hf it (by simp)
  have hl:=rv.length
  exact wpAny_pyNext_tuple_end (I.ok.hd hc) st (show s.heap.IsTuple a its.toArray from p) (by simp;omega) fun h' eb=>⟨rfl,I.turned (t':=s.toks) (fun b o hb e=>eb b o hb e) f0 f1 f3 f4 f5⟩
 self:=fun _ _ _ _ _ st h=>wpAny_pyIter_tupleiter st h
end L2
namespace L2
open PySem PySem.Spec PyProof.Rows
section
variable {X:Cx}{tg:Expr}
def bB3 (K:W.Frag)(tl:TE):TI:=fun σ H R=>tl σ H fun x H1=>∃ a,x=.ref a/\(∃ xs,SqL K H1 a xs)/\R (Itl K a) H1
def bU8 (K:W.Frag)(tl:TE):TI:=fun σ H R=>tl σ H fun x H1=>∃ a,x=.ref a/\(∃ xs,SqT K H1 a xs)/\R (Itt K a) H1
theorem L4 {l:Expr}{tl:TE}(hl:PE X l tl):PI X tg l (bB3 X.K tl):=by
 intro pins s σ H R I h
 refine thn (hl pins s σ H _ I h) fun v s1 ⟨x,H1,I1,r1,q1⟩=>?_
 obtain ⟨a,e,⟨xs,hq⟩,q⟩:=q1
 subst e
 cases r1
 obtain ⟨its,rv,p,hz⟩:=I1.list hq
 refine wpAny_pyIter_list p.isList ?_
 refine ⟨s1.heap.objs.size,[s1.heap.objs.size],_,_,H1,rfl,I1.kept (t':=s1.toks) fun b o e=>Heap.get?_push_of_some _ e,aV4 a _,⟨_,Heap.get?_push_size _ rfl,rfl,rfl⟩,fun b hb=>?_,q⟩
 have e:b=s1.heap.objs.size:=by simpa using hb
 subst e
 exact I1.fpOk (Nat.le_refl _) (I1.hok.fresh (Nat.le_refl _))
theorem bi0 {l:Expr}{tl:TE}(hl:PE X l tl):PI X tg l (bU8 X.K tl):=by
 intro pins s σ H R I h
 refine thn (hl pins s σ H _ I h) fun v s1 ⟨x,H1,I1,r1,q1⟩=>?_
 obtain ⟨a,e,⟨xs,hq⟩,q⟩:=q1
 subst e
 cases r1
 obtain ⟨its,rv,p,hz⟩:=I1.tuple hq
 refine wpAny_pyIter_tuple (show s1.heap.IsTuple a its.toArray from p) ?_
 refine ⟨s1.heap.objs.size,[s1.heap.objs.size],_,_,H1,rfl,I1.kept (t':=s1.toks) fun b o e=>Heap.get?_push_of_some _ e,aK7 a _,⟨_,Heap.get?_push_size _ rfl,rfl,rfl⟩,fun b hb=>?_,q⟩
 have e:b=s1.heap.objs.size:=by simpa using hb
 subst e
 exact I1.fpOk (Nat.le_refl _) (I1.hok.fresh (Nat.le_refl _))
def bT2 (wi:TI)(g:TG)(tb:TS):TS:=fun D σ H=>wi σ H fun J H1=>∃ W:Nat->Nat->St->Hp->Prop,(∃ m,W 0 m σ H1)/\∀ i m σ H,W i m σ H ->
 (J.stop i H/\D.nx σ H)\/(J.go i H/\∃ N:St->Hp->Prop,(∀ σ' H',N σ' H'->∃ m',m' < m/\W (i+1) m' σ' H')/\∀ x H',J.yld i H x H'->g x σ H' fun σ2 H2=>tb { D with nx:=N,ct:=N,bk:=D.nx } σ2 H2)
def T4 (fp:List Addr)(h:Heap):List (Addr×Obj):=fp.filterMap fun b=>(h.get? b).map fun o=>(b,o)
theorem P2 {fp:List Addr}{h:Heap}{b:Addr}{o:Obj}(hb:b∈fp)(e:h.get? b=some o):(b,o)∈T4 fp h:=List.mem_filterMap.mpr ⟨b,hb,by rw [e];rfl⟩
theorem aY5 {fp:List Addr}{h:Heap}{p:Addr×Obj}(hp:p∈T4 fp h):p.1∈fp/\h.get? p.1=some p.2:=by
 obtain ⟨b,hb,e⟩:=List.mem_filterMap.mp hp
 cases q:h.get? b with
 | none=>rw [q] at e;cases e
 | some o =>
  rw [q] at e
  have e':(b,o)=p:=Option.some.inj e
  subst e'
  exact ⟨hb,q⟩
theorem Inv.pinned {pins:List (Addr×Obj)}{σ:St}{H:Hp}{s:Shared}{fp:List Addr}(I:Inv X pins σ H s)(hf:∀ b∈fp,Y9 X pins H b)(ho:∀ b∈fp,∃ o,s.heap.get? b=some o/\∀ v,o.data≠.cell v):Inv X (pins++T4 fp s.heap) σ H s :=
 I.pins_of fun p hp=>(List.mem_append.mp hp).elim (fun z=>I.pin p (List.mem_append_right _ z)) fun z=>by
  obtain ⟨hb,e⟩:=aY5 z
  obtain ⟨f0,f1,f2,_⟩:=hf p.1 hb
  obtain ⟨o,e',d⟩:=ho p.1 hb
  rw [e] at e';cases e'
  exact ⟨e,f0,f1,f2,d⟩
theorem Inv.unpinned {pins pl:List (Addr×Obj)}{σ:St}{H:Hp}{s:Shared}(I:Inv X (pins++pl) σ H s):Inv X pins σ H s:=I.pins_of fun p hp=>I.pin p (List.mem_append_right _ (List.mem_append_left _ hp))
theorem O8 {iter:Expr}{body:List Stmt}{wi:TI}{g:TG}{tb:TS}{pos:Pos}(hp:PassesOwn (model X.prog X.w) X.A X.env X.xe)(hc:X.calm=true)(hi:PI X tg iter wi)(hg:PG X tg g)(hb:PSs X body tb)
  (hs:∀ x,foldedSetIterable iter X.env x=pure x:=by intro _;rfl):PS X (.For tg iter body [] pos) (bT2 wi g tb):=by
 intro pins s σ H D I h
 refine wpAny_For (thn (hi pins s σ H _ I h) fun v s1 h1=>thn h1 fun itv s2 h2=>?_) hs
 obtain ⟨it,fp,tn,J,H2,e,I2,T,st2,f2,W,⟨m0,w0⟩,turn⟩:=h2
 subst e
 have stat:∀ {H':Hp},(∀ b∈fp,H' b=none)->∀ b∈fp,Y9 X pins H' b:=fun hn b hb=>⟨hn b hb,(f2 b hb).2⟩
 refine codeAny_forLoop_any (fun n s'=>∃ i σ' H',Inv X pins σ' H' s'/\tn i s'.heap/\(∀ b∈fp,H' b=none)/\W i n σ' H') ?_ m0 ⟨0,σ,H2,I2,st2,fun b hb=>(f2 b hb).1,w0⟩
 rintro n s3 ⟨i,σ3,H3,I3,st3,fr3,w3⟩
 rcases turn i n σ3 H3 w3 with ⟨stop,qn⟩ | ⟨go,N,hN,step⟩
 ·refine wpAny_passesOwn hp (thn (T.done X rfl rfl rfl hc i pins s3 σ3 H3 X.xe I3 (stat fr3) st3 stop) fun r s4 ⟨hr,I4⟩=>?_)
  subst hr
  exact wpAny_execs_nil ⟨σ3,H3,I4,qn⟩
 ·refine wpAny_passesOwn hp (thn (T.item X rfl rfl rfl hc i pins s3 σ3 H3 X.xe I3 (stat fr3) st3 go) fun r s4 ⟨u,hr,h4⟩=>?_)
  subst hr
  refine wpAny_passesOwn hp (thn h4 fun _ s5 ⟨x,H5,I5,r5,y5,st5,fr5⟩=>?_)
  have I5':=I5.pinned (stat fr5) (T.obj _ _ st5)
  refine wpAny_passesOwn hp (thn (hg _ s5 σ3 H5 x u _ I5' r5 (step x H5 y5)) fun _ s6 ⟨σ6,H6,I6,q6⟩=>?_)
  refine wpAny_passesOwn hp (thn (hb _ s6 σ6 H6 _ I6 q6) fun f s7 q7=>?_)
  have again:∀ {σ7:St}{H7:Hp},Inv X (pins++T4 fp s5.heap) σ7 H7 s7->N σ7 H7->∃ m,m < n/\∃ i σ' H',Inv X pins σ' H' s7/\tn i s7.heap/\(∀ b∈fp,H' b=none)/\W i m σ' H':=fun {σ7 H7} I7 n7=>by
   obtain ⟨m',hm,w7⟩:=hN σ7 H7 n7
   refine ⟨m',hm,i+1,σ7,H7,I7.unpinned,T.keep _ _ _ st5 fun b hb o e=>(I7.pin (b,o) (List.mem_append_right _ (List.mem_append_right _ (P2 hb e)))).1,fun b hb=>?_,w7⟩
   obtain ⟨o,e,d⟩:=T.obj _ _ st5 b hb
   exact (I7.pin (b,o) (List.mem_append_right _ (List.mem_append_right _ (P2 hb e)))).2.1
  cases f with
  | next=>obtain ⟨σ7,H7,I7,n7⟩:=q7;exact again I7 n7
  | cont=>obtain ⟨σ7,H7,I7,n7⟩:=q7;exact again I7 n7
  | brk=>obtain ⟨σ7,H7,I7,q7⟩:=q7;exact ⟨σ7,H7,I7.unpinned,q7⟩
  | ret v=>obtain ⟨x7,σ7,H7,I7,r7,q7⟩:=q7;exact ⟨x7,σ7,H7,I7.unpinned,r7,q7⟩
end
theorem L7 {K:W.Frag}{a:Addr}{xs:List V}{g:TG}{tb:TS}{D:aE0}{σ:St}{H:Hp}(Pv:Nat->St->Hp->Prop)(h0:Pv 0 σ H)(hl:∀ i σ H,i<=xs.length->Pv i σ H->SqL K H a xs)
  (hs:∀ i x σ H,xs[i]?=some x->Pv i σ H->g x σ H fun σ2 H2=>tb { D with nx:=Pv (i+1),ct:=Pv (i+1),bk:=D.nx } σ2 H2) (hd:∀ σ H,Pv xs.length σ H->D.nx σ H) :
  ∃ W:Nat->Nat->St->Hp->Prop,(∃ m,W 0 m σ H)/\∀ i m σ H,W i m σ H ->
   ((Itl K a).stop i H/\D.nx σ H)\/((Itl K a).go i H/\∃ N:St->Hp->Prop,(∀ σ' H',N σ' H'->∃ m',m' < m/\W (i+1) m' σ' H')/\∀ x H',(Itl K a).yld i H x H'->g x σ H' fun σ2 H2=>tb { D with nx:=N,ct:=N,bk:=D.nx } σ2 H2):=by
 refine ⟨fun i m σ H=>m=xs.length - i/\i<=xs.length/\Pv i σ H,⟨xs.length,by simp,Nat.zero_le _,h0⟩,?_⟩
 rintro i m σ H ⟨rfl,hi,p⟩
 have q:=hl i σ H hi p
 by_cases hlt:i < xs.length
 ·refine .inr ⟨⟨xs,xs[i],q,by simp [hlt]⟩,Pv (i+1),fun σ' H' p'=>⟨xs.length - (i+1),by omega,rfl,hlt,p'⟩,fun x H' y=>?_⟩
  obtain ⟨e,y⟩:=y
  subst e
  exact hs i x σ _ (y xs q) p
 ·have e:i=xs.length:=by omega
  subst e
  exact .inl ⟨⟨xs,q,Nat.le_refl _⟩,hd σ H p⟩
theorem aT5 {K:W.Frag}{a:Addr}{xs:List V}{g:TG}{tb:TS}{D:aE0}{σ:St}{H:Hp}(Pv:Nat->St->Hp->Prop)(h0:Pv 0 σ H)(hl:∀ i σ H,i<=xs.length->Pv i σ H->SqT K H a xs)
  (hs:∀ i x σ H,xs[i]?=some x->Pv i σ H->g x σ H fun σ2 H2=>tb { D with nx:=Pv (i+1),ct:=Pv (i+1),bk:=D.nx } σ2 H2) (hd:∀ σ H,Pv xs.length σ H->D.nx σ H) :
  ∃ W:Nat->Nat->St->Hp->Prop,(∃ m,W 0 m σ H)/\∀ i m σ H,W i m σ H ->
   ((Itt K a).stop i H/\D.nx σ H)\/((Itt K a).go i H/\∃ N:St->Hp->Prop,(∀ σ' H',N σ' H'->∃ m',m' < m/\W (i+1) m' σ' H')/\∀ x H',(Itt K a).yld i H x H'->g x σ H' fun σ2 H2=>tb { D with nx:=N,ct:=N,bk:=D.nx } σ2 H2):=by
 refine ⟨fun i m σ H=>m=xs.length - i/\i<=xs.length/\Pv i σ H,⟨xs.length,by simp,Nat.zero_le _,h0⟩,?_⟩
 rintro i m σ H ⟨rfl,hi,p⟩
 have q:=hl i σ H hi p
 by_cases hlt:i < xs.length
 ·refine .inr ⟨⟨xs,xs[i],q,by simp [hlt]⟩,Pv (i+1),fun σ' H' p'=>⟨xs.length - (i+1),by omega,rfl,hlt,p'⟩,fun x H' y=>?_⟩
  obtain ⟨e,y⟩:=y
  subst e
  exact hs i x σ _ (y xs q) p
 ·have e:i=xs.length:=by omega
  subst e
  exact .inl ⟨⟨xs,q,Nat.le_refl _⟩,hd σ H p⟩
theorem T9 {c:TT}{tb:TS}{D:aE0}{σ:St}{H:Hp}(Pv:St->Hp->Prop)(μ:St->Hp->Nat)(h0:Pv σ H)
  (hs:∀ σ H,Pv σ H->c σ H fun b H1=>if b=true then tb { D with nx:=fun σ' H'=>Pv σ' H'/\μ σ' H' < μ σ H,ct:=fun σ' H'=>Pv σ' H'/\μ σ' H' < μ σ H,bk:=D.nx } σ H1 else D.nx σ H1)
  (mono:∀ σ H Q Q',(∀ b H1,Q b H1->Q' b H1)->c σ H Q->c σ H Q'):be0 c tb D σ H:=by
 refine ⟨fun m σ H=>m=μ σ H/\Pv σ H,⟨_,rfl,h0⟩,?_⟩
 rintro m σ H ⟨rfl,p⟩
 refine mono σ H _ _ (fun b H1 q=>?_) (hs σ H p)
 cases b with
 | true=>exact ⟨_,fun σ' H' ⟨p',l⟩=>⟨_,l,rfl,p'⟩,q⟩
 | false=>exact q
end L2
namespace L2
open PySem PySem.Spec PyProof.Rows
abbrev R2:=V->V->Hp->VK->Prop
def OpR (X:Cx)(f:Value->Value->Sem Value)(r:R2):Prop :=
 ∀ (pins:List (Addr×Obj)) (s:Shared) (σ:St) (H:Hp) (x y:V) (v u:Value) (Q:VK),Inv X pins σ H s->t9 x v->t9 y u->r x y H Q ->
  wpAny (model X.prog X.w) X.A (f v u) (EP X pins σ Q) X.xe s
def UnR (X:Cx)(f:Value->Sem Value)(r:V->Hp->VK->Prop):Prop :=
 ∀ (pins:List (Addr×Obj)) (s:Shared) (σ:St) (H:Hp) (x:V) (v:Value) (Q:VK),Inv X pins σ H s->t9 x v->r x H Q ->
  wpAny (model X.prog X.w) X.A (f v) (EP X pins σ Q) X.xe s
def am5 (X:Cx)(f:Value)(r:List V->Hp->VK->Prop):Prop :=
 ∀ (pins:List (Addr×Obj)) (s:Shared) (σ:St) (H:Hp) (xs:List V) (us:List Value) (Q:VK),Inv X pins σ H s->n9 xs us->r xs H Q ->
  wpAny (model X.prog X.w) X.A (call f us) (EP X pins σ Q) X.xe s
def tOp (r:R2)(ta tb:TE):TE:=fun σ H Q=>ta σ H fun x H1=>tb σ H1 fun y H2=>r x y H2 Q
def tUn (r:V->Hp->VK->Prop)(ta:TE):TE:=fun σ H Q=>ta σ H fun x H1=>r x H1 Q
def rI (C:Int->Int->Prop)(g:Int->Int->V):R2:=fun x y H Q=>∃ i j,x=.int i/\y=.int j/\C i j/\Q (g i j) H
def rI0 (g:Int->Int->V):R2:=fun x y H Q=>∃ i j,x=.int i/\y=.int j/\Q (g i j) H
def rU (g:Int->V):V->Hp->VK->Prop:=fun x H Q=>∃ i,x=.int i/\Q (g i) H
section
variable {X:Cx}{a b c:Expr}{ta tb tc:TE}{pos:Pos}
theorem bL9 (ha:PE X a ta)(hb:PE X b tb){pins:List (Addr×Obj)}{s:Shared}{σ:St}{H:Hp}{R:V->V->Hp->Prop}(I:Inv X pins σ H s)
  (h:ta σ H fun x H1=>tb σ H1 fun y H2=>R x y H2) {Q:Value->Shared->Prop}{f:Value->Value->Sem Value}
  (hf:∀ v u s2 x y H2,Inv X pins σ H2 s2->t9 x v->t9 y u->R x y H2->wpAny (model X.prog X.w) X.A (f v u) Q X.xe s2) :
  wpAny (model X.prog X.w) X.A (eval a X.env) (fun v s₁=>wpAny (model X.prog X.w) X.A (eval b X.env) (fun u s₂=>wpAny (model X.prog X.w) X.A (f v u) Q X.xe s₂) X.xe s₁) X.xe s:=by
 refine thn (ha pins s σ H _ I h) fun v s1 ⟨x,H1,I1,r1,q1⟩=>?_
 refine thn (hb pins s1 σ H1 _ I1 q1) fun u s2 ⟨y,H2,I2,r2,q2⟩=>?_
 exact hf v u s2 x y H2 I2 r1 r2 q2
theorem i6 {op:Operator}{r:R2}(ho:OpR X (binaryOp op) r)(ha:PE X a ta)(hb:PE X b tb):PE X (.BinOp a op b pos) (tOp r ta tb):=by
 intro pins s σ H Q I h
 exact wpAny_BinOp (bL9 ha hb I h fun v u s2 x y H2 I2 rx ry q=>ho pins s2 σ H2 x y v u Q I2 rx ry q)
theorem al1 {op:UnaryOp}{r:V->Hp->VK->Prop}(ho:UnR X (unaryOp op) r)(ha:PE X a ta):PE X (.UnaryOp op a pos) (tUn r ta):=by
 intro pins s σ H Q I h
 exact UnaryOp_ (thn (ha pins s σ H _ I h) fun v s1 ⟨x,H1,I1,r1,q1⟩=>ho pins s1 σ H1 x v Q I1 r1 q1)
theorem opI {f:Value->Value->Sem Value}{C:Int->Int->Prop}{g:Int->Int->Int}
  (rule:∀ (i j:Int) (t u:Tok) (s:Shared) (Q:Value->Shared->Prop) (E:Value->Shared->Prop),C i j->Q (.int (g i j) s.toks) { s with toks:=s.toks+1 }->wpAny (model X.prog X.w) X.A (f (.int i t) (.int j u)) Q E s) :
  OpR X f (rI C fun i j=>.int (g i j)):=by
 intro pins s σ H x y v u Q I rx ry h
 obtain ⟨i,j,rfl,rfl,hc,q⟩:=h
 obtain ⟨t,rfl⟩:=rx
 obtain ⟨t',rfl⟩:=ry
 exact rule i j t t' s _ _ hc ⟨.int (g i j),H,I.tok _,⟨_,rfl⟩,q⟩
theorem bG0 {f:Value->Value->Sem Value}{g:Int->Int->Int}
  (rule:∀ (i j:Int) (t u:Tok) (s:Shared) (Q:Value->Shared->Prop) (E:Value->Shared->Prop),Q (.int (g i j) s.toks) { s with toks:=s.toks+1 }->wpAny (model X.prog X.w) X.A (f (.int i t) (.int j u)) Q E s) :
  OpR X f (rI0 fun i j=>.int (g i j)):=by
 intro pins s σ H x y v u Q I rx ry h
 obtain ⟨i,j,rfl,rfl,q⟩:=h
 obtain ⟨t,rfl⟩:=rx
 obtain ⟨t',rfl⟩:=ry
 exact rule i j t t' s _ _ ⟨.int (g i j),H,I.tok _,⟨_,rfl⟩,q⟩
theorem bs9 {f:Value->Value->Sem Value}{g:Int->Int->Bool}
  (rule:∀ (i j:Int) (t u:Tok) (s:Shared) (Q:Value->Shared->Prop) (E:Value->Shared->Prop),Q (.bool (g i j)) s->wpAny (model X.prog X.w) X.A (f (.int i t) (.int j u)) Q E s) :
  OpR X f (rI0 fun i j=>.bl (g i j)):=by
 intro pins s σ H x y v u Q I rx ry h
 obtain ⟨i,j,rfl,rfl,q⟩:=h
 obtain ⟨t,rfl⟩:=rx
 obtain ⟨t',rfl⟩:=ry
 exact rule i j t t' s _ _ ⟨.bl (g i j),H,I,rfl,q⟩
def bz3 (i j:Int):Prop:=(-(2 ^ 64) < i/\i < 2 ^ 64)\/(-(2 ^ 64) < j/\j < 2 ^ 64)
theorem bz3.ok {i j:Int}(h:bz3 i j):IntMulOk i j:=by
 rcases h with ⟨h1,h2⟩ | ⟨h1,h2⟩
 ·exact .of_left (intBits_le_64 h1 h2)
 ·exact .of_right (intBits_le_64 h1 h2)
theorem J3:OpR X (binaryOp .Add) (rI0 fun i j=>.int (i+j)):=bG0 fun _ _ _ _ _ _ _ q=>add_int q
theorem T5:OpR X (binaryOp .Sub) (rI0 fun i j=>.int (i - j)):=bG0 fun _ _ _ _ _ _ _ q=>sub_int q
theorem bF7:OpR X (binaryOp .Mult) (rI bz3 fun i j=>.int (i*j)):=opI fun _ _ _ _ _ _ _ hc q=>mul_int q hc.ok
theorem bF8:OpR X (binaryOp .Mod) (rI (fun _ j=>0 < j) fun i j=>.int (i % j)):=opI fun i j _ _ _ _ _ hc q=>by
 have h1:(0:Int) < j:=hc
 exact mod_int' (by omega) (by rw [Int.fmod_eq_emod_of_nonneg i (by omega)];exact q)
theorem bw8:OpR X (inplaceOp .Add) (rI0 fun i j=>.int (i+j)):=bG0 fun _ _ _ _ _ _ _ q=>iadd_int q
theorem bw7:OpR X (inplaceOp .Mult) (rI bz3 fun i j=>.int (i*j)):=opI fun _ _ _ _ _ _ _ hc q=>imul_int q hc.ok
theorem unI {f:Value->Sem Value}{g:Int->Int}
  (rule:∀ (i:Int) (t:Tok) (s:Shared) (Q:Value->Shared->Prop) (E:Value->Shared->Prop),Q (.int (g i) s.toks) { s with toks:=s.toks+1 }->wpAny (model X.prog X.w) X.A (f (.int i t)) Q E s) :
  UnR X f (rU fun i=>.int (g i)):=by
 intro pins s σ H x v Q I rx h
 obtain ⟨i,rfl,q⟩:=h
 obtain ⟨t,rfl⟩:=rx
 exact rule i t s _ _ ⟨.int (g i),H,I.tok _,⟨_,rfl⟩,q⟩
theorem Z6:UnR X (unaryOp .USub) (rU fun i=>.int (-i)):=unI fun _ _ _ _ _ q=>neg_int q
end
def bO1:V->V->Bool
 | .non,.non=>true | .non,.int _=>true | .int _,.non=>true | .non,.bl _=>true | .bl _,.non=>true | .non,.str _=>true | .str _,.non=>true
 | .int _,.int _=>true | .bl _,.bl _=>true | .str _,.str _=>true | .byt _,.byt _=>true
 | .int _,.str _=>true | .str _,.int _=>true | .bl _,.str _=>true | .str _,.bl _=>true
 | _,_=>false
def rEq:R2:=fun x y H Q=>bO1 x y=true/\Q (.bl (decide (x=y))) H
def rNe:R2:=fun x y H Q=>bO1 x y=true/\Q (.bl (!decide (x=y))) H
theorem aU2 {i j:Int}:decide (V.int i=V.int j)=(i == j):=by
 rw [Bool.eq_iff_iff]
 simp
theorem bn9 {i j:Bool}:decide (V.bl i=V.bl j)=(i == j):=by
 rw [Bool.eq_iff_iff]
 simp
theorem aU1 {i j:Str}:decide (V.str i=V.str j)=(i == j):=by
 rw [Bool.eq_iff_iff]
 simp
theorem aU3 {i j:Array UInt8}:decide (V.byt i=V.byt j)=(i.toList == j.toList):=by
 rw [Bool.eq_iff_iff]
 cases i
 cases j
 simp
section
variable {X:Cx}{a b c:Expr}{ta tb tc:TE}{pos:Pos}
theorem u9 {pins:List (Addr×Obj)}{σ:St}{H:Hp}{s:Shared}{Q:VK}{k k':Bool}(I:Inv X pins σ H s)(q:Q (.bl k) H)(e:k=k'):EP X pins σ Q (.bool k') s:=by
 subst e
 exact ⟨.bl k,H,I,rfl,q⟩
theorem E0:OpR X (compareOp .Eq) rEq:=by
 intro pins s σ H x y v u Q I rx ry h
 obtain ⟨hs,q⟩:=h
 cases x with
 | non =>
  cases rx
  cases y with
  | non=>cases ry;exact PySem.EqNone.eq_none_none (u9 I q (by simp))
  | bl j=>cases ry;exact PySem.EqNone.eq_none_bool (u9 I q (by simp))
  | int j=>obtain ⟨t',rfl⟩:=ry;exact PySem.EqNone.eq_none_int (u9 I q (by simp))
  | str j=>obtain ⟨t',rfl⟩:=ry;exact PySem.EqNone.eq_none_str (u9 I q (by simp))
  | _=>exact absurd (show false=true from hs) Bool.false_ne_true
 | bl i =>
  cases rx
  cases y with
  | non=>cases ry;exact PySem.EqNone.eq_bool_none (u9 I q (by simp))
  | bl j=>cases ry;exact eq_bool (u9 I q bn9)
  | str j=>obtain ⟨t',rfl⟩:=ry;exact PySem.EqMixed.eq_bool_str (u9 I q (by simp))
  | _=>exact absurd (show false=true from hs) Bool.false_ne_true
 | int i =>
  obtain ⟨t,rfl⟩:=rx
  cases y with
  | non=>cases ry;exact PySem.EqNone.eq_int_none (u9 I q (by simp))
  | int j=>obtain ⟨t',rfl⟩:=ry;exact eq_int (u9 I q aU2)
  | str j=>obtain ⟨t',rfl⟩:=ry;exact PySem.EqMixed.eq_int_str (u9 I q (by simp))
  | _=>exact absurd (show false=true from hs) Bool.false_ne_true
 | str i =>
  obtain ⟨t,rfl⟩:=rx
  cases y with
  | non=>cases ry;exact PySem.EqNone.eq_str_none (u9 I q (by simp))
  | bl j=>cases ry;exact PySem.EqMixed.eq_str_bool (u9 I q (by simp))
  | int j=>obtain ⟨t',rfl⟩:=ry;exact PySem.EqMixed.eq_str_int (u9 I q (by simp))
  | str j=>obtain ⟨t',rfl⟩:=ry;exact eq_str (u9 I q aU1)
  | _=>exact absurd (show false=true from hs) Bool.false_ne_true
 | byt i =>
  obtain ⟨t,rfl⟩:=rx
  cases y with
  | byt j=>obtain ⟨t',rfl⟩:=ry;exact W.eq_bytes (u9 I q aU3)
  | _=>exact absurd (show false=true from hs) Bool.false_ne_true
 | _=>cases y<;>exact absurd (show false=true from hs) Bool.false_ne_true
theorem bA5:OpR X (compareOp .NotEq) rNe:=by
 intro pins s σ H x y v u Q I rx ry h
 obtain ⟨hs,q⟩:=h
 cases x with
 | non =>
  cases rx
  cases y with
  | non=>cases ry;exact PySem.EqNone.ne_none_none (u9 I q (by simp))
  | bl j=>cases ry;exact PySem.EqNone.ne_none_bool (u9 I q (by simp))
  | int j=>obtain ⟨t',rfl⟩:=ry;exact PySem.EqNone.ne_none_int (u9 I q (by simp))
  | str j=>obtain ⟨t',rfl⟩:=ry;exact PySem.EqNone.ne_none_str (u9 I q (by simp))
  | _=>exact absurd (show false=true from hs) Bool.false_ne_true
 | bl i =>
  cases rx
  cases y with
  | non=>cases ry;exact PySem.EqNone.ne_bool_none (u9 I q (by simp))
  | bl j=>cases ry;exact ne_bool (u9 I q (congrArg not bn9))
  | str j=>obtain ⟨t',rfl⟩:=ry;exact PySem.EqMixed.ne_bool_str (u9 I q (by simp))
  | _=>exact absurd (show false=true from hs) Bool.false_ne_true
 | int i =>
  obtain ⟨t,rfl⟩:=rx
  cases y with
  | non=>cases ry;exact PySem.EqNone.ne_int_none (u9 I q (by simp))
  | int j=>obtain ⟨t',rfl⟩:=ry;exact ne_int (u9 I q (congrArg not aU2))
  | str j=>obtain ⟨t',rfl⟩:=ry;exact PySem.EqMixed.ne_int_str (u9 I q (by simp))
  | _=>exact absurd (show false=true from hs) Bool.false_ne_true
 | str i =>
  obtain ⟨t,rfl⟩:=rx
  cases y with
  | non=>cases ry;exact PySem.EqNone.ne_str_none (u9 I q (by simp))
  | bl j=>cases ry;exact PySem.EqMixed.ne_str_bool (u9 I q (by simp))
  | int j=>obtain ⟨t',rfl⟩:=ry;exact PySem.EqMixed.ne_str_int (u9 I q (by simp))
  | str j=>obtain ⟨t',rfl⟩:=ry;exact ne_str (u9 I q (congrArg not aU1))
  | _=>exact absurd (show false=true from hs) Bool.false_ne_true
 | byt i =>
  obtain ⟨t,rfl⟩:=rx
  cases y with
  | byt j=>obtain ⟨t',rfl⟩:=ry;exact W.ne_bytes (u9 I q (congrArg not aU3))
  | _=>exact absurd (show false=true from hs) Bool.false_ne_true
 | _=>cases y<;>exact absurd (show false=true from hs) Bool.false_ne_true
theorem ar3:OpR X (compareOp .Lt) (rI0 fun i j=>.bl (decide (i < j))):=bs9 fun _ _ _ _ _ _ _ q=>lt_int q
theorem aw8:OpR X (compareOp .LtE) (rI0 fun i j=>.bl (decide (i<=j))):=bs9 fun _ _ _ _ _ _ _ q=>le_int q
theorem al4:OpR X (compareOp .Gt) (rI0 fun i j=>.bl (decide (j < i))):=bs9 fun _ _ _ _ _ _ _ q=>gt_int q
theorem bi9:OpR X (compareOp .GtE) (rI0 fun i j=>.bl (decide (j<=i))):=bs9 fun _ _ _ _ _ _ _ q=>ge_int q
theorem j8 (b:Expr){op:CmpOp}(h:op≠.In:=by decide)(h2:op≠.NotIn:=by decide):behindInMarks op b=false:=by
 have e1:(op == CmpOp.In)=false:=by cases op<;>first | rfl | exact absurd rfl h
 have e2:(op == CmpOp.NotIn)=false:=by cases op<;>first | rfl | exact absurd rfl h2
 cases b<;>simp [behindInMarks,e1,e2]
theorem Q6 {op:CmpOp}{r:R2}(ho:OpR X (compareOp op) r)(ha:PE X a ta)(hb:PE X b tb)(hm:behindInMarks op b=false):PE X (.Compare a [op] [b] pos) (tOp r ta tb):=by
 intro pins s σ H Q I h
 exact wpAny_Compare1 (bL9 ha hb I h fun v u s2 x y H2 I2 rx ry q=>ho pins s2 σ H2 x y v u Q I2 rx ry q) hm
def bz4 (t:TE):TT:=fun σ H Q=>t σ H fun x H'=>∃ k,x=.bl k/\Q k H'
theorem j5 {op:CmpOp}{r:R2}(ho:OpR X (compareOp op) r)(ha:PE X a ta)(hb:PE X b tb)(hm:behindInMarks op b=false):PT X (.Compare a [op] [b] pos) (bz4 (tOp r ta tb)):=by
 intro pins s σ H Q I h
 refine wpAny_isTrue_Compare1 (thn (ha pins s σ H _ I h) fun v s1 ⟨x,H1,I1,r1,q1⟩=>thn (hb pins s1 σ H1 _ I1 q1) fun u s2 ⟨y,H2,I2,r2,q2⟩ =>
  thn (ho pins s2 σ H2 x y v u _ I2 r1 r2 q2) fun c s3 ⟨z,H3,I3,r3,k,e,q3⟩=>?_) hm
 subst e
 cases r3
 exact wpAny_truthy_bool ⟨H3,I3,q3⟩
def be3 (r r':R2)(ta tb tc:TE):TE:=fun σ H Q=>ta σ H fun x H1=>tb σ H1 fun y H2=>r x y H2 fun z H3=>∃ k,z=.bl k /\
 (if k=true then tc σ H3 fun w' H4=>r' y w' H4 Q else Q (.bl false) H3)
theorem aq9 {op op':CmpOp}{r r':R2}(ho:OpR X (compareOp op) r)(ho':OpR X (compareOp op') r')(ha:PE X a ta)(hb:PE X b tb)(hc:PE X c tc)
  (hm:lastMarks [op,op'] [b,c]=false:=by with_unfolding_all rfl):PE X (.Compare a [op,op'] [b,c] pos) (be3 r r' ta tb tc):=by
 intro pins s σ H Q I h
 refine Compare_chain (thn (ha pins s σ H _ I h) fun v s1 ⟨x,H1,I1,r1,q1⟩=>chain_link (thn (hb pins s1 σ H1 _ I1 q1) fun u s2 ⟨y,H2,I2,r2,q2⟩ =>
  thn (ho pins s2 σ H2 x y v u _ I2 r1 r2 q2) fun d s3 ⟨z,H3,I3,r3,k,e,q3⟩=>?_)) hm
 subst e
 cases r3
 refine wpAny_truthy_bool ?_
 cases k with
 | false=>exact ite_ff ⟨.bl false,H3,I3,rfl,q3⟩
 | true=>exact ite_tt (chain_last (thn (hc pins s3 σ H3 _ I3 q3) fun w' s4 ⟨z',H4,I4,r4,q4⟩=>ho' pins s4 σ H4 y z' u w' Q I4 r2 r4 q4))
theorem aN6:(sizeLine:Nat) < 2 ^ 63:=by rw [sizeLine_eq];decide
theorem av2 {x:V}{us:List Value}(r:n9 [x] us):∃ u,us=[u]/\t9 x u:=by
 cases r with
 | cons r1 r2=>cases r2;exact ⟨_,rfl,r1⟩
theorem at6:am5 X (.builtin "abs") (fun xs H Q=>∃ i,xs=[.int i]/\Q (.int (if i < 0 then -i else i)) H):=by
 intro pins s σ H xs us Q I r h
 obtain ⟨i,rfl,q⟩:=h
 obtain ⟨u,rfl,t,rfl⟩:=av2 r
 exact call_abs_int fun u tk=>⟨.int (if i < 0 then -i else i),H,I.tok _,⟨_,rfl⟩,q⟩
theorem at5:am5 X (.builtin "ord") (fun xs H Q=>∃ x,xs=[.str x]/\x.length=1/\Q (.int (x.cps.getD 0 0:Nat)) H):=by
 intro pins s σ H xs us Q I r h
 obtain ⟨x,rfl,hz,q⟩:=h
 obtain ⟨u,rfl,t,rfl⟩:=av2 r
 exact ord_of_one hz ⟨.int _,H,I.tok _,⟨_,rfl⟩,q⟩
end
end L2
namespace L2
open PySem PySem.Spec PyProof.Rows
structure aP3 (h:Heap)(x dx C:Addr)(mA:Str->Option Value):Prop where
 obj:h.get? x=some (W.instObj C dx)
 ns:h.Ns1 dx mA
 ne:dx≠x
theorem aY9 {h:Heap}{dx:Addr}{mA:Str->Option Value}(n:h.Ns1 dx mA):∃ od,h.get? dx=some od/\∀ name,W.lookIn name od=some (mA name):=by
 obtain ⟨o,es,ep,ho,hd,hk,_,hm⟩:=n
 refine ⟨o,ho,fun name=>?_⟩
 have e:=hm name
 unfold nsFind findBy at e
 rw [<-Array.find?_toList] at e
 unfold W.lookIn
 rw [hd]
 dsimp only
 split
 ·rename_i y q
  rw [q] at e
  exact congrArg some e
 ·rename_i q
  rw [q] at e
  have a:es.toList.any (·.refKey)=false:=by
   rw [List.any_eq_false]
   intro y hy
   obtain ⟨z,t,hkey⟩:=hk y (Array.mem_toList_iff.mp hy)
   simp [DictEntry.refKey,hkey]
  have a':¬ es.toList.any (·.refKey)=true:=by rw [a];exact Bool.false_ne_true
  rw [if_neg a']
  exact congrArg some e
theorem aP3.look {h:Heap}{x dx C:Addr}{mA:Str->Option Value}(I:aP3 h x dx C mA):∃ od,W.InstAt h x (W.instObj C dx) C (some od)/\∀ name,W.lookIn name od=some (mA name) :=
 let ⟨od,ho,hl⟩:=aY9 I.ns
 ⟨od,⟨I.obj,rfl,rfl,ho⟩,hl⟩
section
variable {prog:Program}{w:World}{A:Around}{E:Value->Shared->Prop}{s:Shared}{K:W.Frag}{x dx C f:Addr}{mA:Str->Option Value}{name:Str}{v:Value}
theorem bx2 {expr:Bool}{Q:Value->Shared->Prop}(X:K.In s.heap)(I:aP3 s.heap x dx C mA)(hg:W.plainGet K C name=true)(hh:W.hasDictIn K C=true)
  (ha:W.findIn K (.ref C) name=some none) (hv:mA name=some v) (hv':W.handedIn v=true) (h:Q v { s with toks:=s.toks+1 }) :
  wpAny (model prog w) A (getAttr (.ref x) name expr) Q E s:=by
 obtain ⟨od,J,hl⟩:=I.look
 exact W.get_value X J (W.plainGet_of hg).1 (W.findObj_own hh ha rfl (by rw [hl,hv])) hv' h
theorem bn0 {pl:Sem Bool}{Q:Value×List Value->Shared->Prop}(X:K.In s.heap)(I:aP3 s.heap x dx C mA)(hg:W.plainGet K C name=true)
  (hf:W.findIn K (.ref C) name=some (some (.ref f))) (ht:W.isFn K (.ref f)=true) (hv:mA name=none) (h:Q (.ref f,[.ref x]) s) :
  wpAny (model prog w) A (getMethod (.ref x) name pl) Q E s:=by
 obtain ⟨od,J,hl⟩:=I.look
 exact W.method_fn X J (W.plainGet_of hg).1 (W.plainGet_of hg).2 hf (beq_iff_eq.mp ht) (by show (W.lookIn name od).map (·.isSome)=some false;rw [hl,hv];rfl) h
theorem bq9 {ns:List Str}{Q:Unit->Shared->Prop}(X:K.In s.heap)(I:aP3 s.heap x dx C mA)
  (hs:W.findIn K (.ref C) "__setattr__"=some (some (.builtin "object.__setattr__"))) (hp:W.plainOver K C=true) (ht:W.takerIn K C name=some none) (hh:W.hasDictIn K C=true)
  (hw:PySem.Within mA ns) (hsz:ns.length<=sizeLine)
  (h:∀ h',aP3 h' x dx C (fun y=>if y=name then some v else mA y)->Heap.SameBut dx s.heap h'->Q () { s with heap:=h',toks:=s.toks+2 }) :
  wpAny (model prog w) A (setAttr (.ref x) name v) Q E s:=by
 obtain ⟨od,J,hl⟩:=I.look
 refine W.set_plain X J hs (W.osa_open (s:={ s with toks:=s.toks+1 }) (r:=none) X J hp ht fun b=>?_)
 obtain ⟨cd,hc,hd'⟩:=W.any_some hh
 have hx:s.heap.get? x=some ⟨.ref C,some dx,.plain,#[]⟩:=I.obj
 refine wpAny_bind (wpAny_pure (wpAny_bind (wpAny_bind (wpAny_loadPart hx (wpAny_bind (W.Looks.here (s:={ s with toks:=s.toks+1 }) (W.looks_clsIn X hc) ?_))))))
 rw [hd']
 refine wpAny_pure (a:=some dx) (wpAny_bind (wpAny_pure (wpAny_bind ?_)))
 refine wpAny_nsSet1 (s:={ s with toks:=s.toks+1 }) I.ns fun h' hn2 hs2=>?_
 obtain ⟨oD,esD,epD,hoD,hdD,hcD⟩:=hn2.count (PySem.Within.cons name v hw)
 refine wpAny_bind (wpAny_lookBehind hoD (by rw [hdD];exact pastItsLine_dict (Nat.le_trans hcD (by rw [List.length_cons];omega))) ?_)
 exact wpAny_pure (h _ ⟨(hs2.2 _ (Ne.symm I.ne)).trans I.obj,hn2,I.ne⟩ hs2)
theorem bk8 {R:Result->Shared->Prop}{vs:List Value}{kw:List (Str×Value)}(X:K.In s.heap)(hm:W.makesIn K C=true)
  (hi:W.findIn K (.ref C) "__init__"=some (some (.ref f))) (hf:W.typeIn K (.ref f)=some (.type "function"))
  (h:codeAny (model prog w) (A.under (.builtin "type.__call__" ⟨.ref C::vs,kw⟩)) (.call (.ref f) ⟨.ref (s.heap.objs.size+1)::vs,kw⟩) (W.InitBack (s.heap.objs.size+1) R)
   { s with heap:=(s.heap.push W.emptyDict).push (W.instObj C s.heap.objs.size) }) :
  codeAny (model prog w) A (.call (.ref C) ⟨vs,kw⟩) R s:=by
 obtain ⟨hh,g,d,t,os⟩:=s
 exact W.make_core (W.makes_of X hm) (W.looks_findIn X hi) (fun self=>W.bind_fn X self hf) (.inl rfl) h
end
def z9 (f:Str)(v:V):List (Str×V)->List (Str×V)
 | []=>[(f,v)]
 | (g,x)::r=>if g=f then (g,v)::r else (g,x)::z9 f v r
theorem aa7 (f g:Str)(v:V):∀ fs:List (Str×V),(z9 f v fs).lookup g=if g=f then some v else fs.lookup g
 | []=>by
  show List.lookup g [(f,v)]=_
  by_cases h:g=f
  ·have hb:(g == f)=true:=beq_iff_eq.mpr h
   simp only [List.lookup,hb,if_pos h]
  ·have hb:(g == f)=false:=beq_eq_false_iff_ne.mpr h
   simp only [List.lookup,hb,if_neg h]
 | (k,x)::r=>by
  have ih:=aa7 f g v r
  rw [show z9 f v ((k,x)::r)=(if k=f then (k,v)::r else (k,x)::z9 f v r) from rfl]
  by_cases hk:k=f
  ·rw [if_pos hk]
   by_cases h:g=k
   ·have hb:(g == k)=true:=beq_iff_eq.mpr h
    simp only [List.lookup,hb,if_pos (h.trans hk)]
   ·have hb:(g == k)=false:=beq_eq_false_iff_ne.mpr h
    simp only [List.lookup,hb,if_neg (fun e:g=f=>h (e.trans hk.symm))]
  ·rw [if_neg hk]
   by_cases h:g=k
   ·have hb:(g == k)=true:=beq_iff_eq.mpr h
    simp only [List.lookup,hb,if_neg (fun e:g=f=>hk (h.symm.trans e))]
   ·have hb:(g == k)=false:=beq_eq_false_iff_ne.mpr h
    simp only [List.lookup,hb]
    exact ih
theorem U7 (f:Str)(v:V):∀ fs:List (Str×V),f∈(z9 f v fs).map (·.1)/\∀ g,g∈fs.map (·.1)->g∈(z9 f v fs).map (·.1)
 | []=>⟨by simp [z9],fun g h=>by simp at h⟩
 | (k,x)::r=>by
  obtain ⟨i1,i2⟩:=U7 f v r
  rw [show z9 f v ((k,x)::r)=(if k=f then (k,v)::r else (k,x)::z9 f v r) from rfl]
  by_cases hk:k=f
  ·rw [if_pos hk]
   subst hk
   exact ⟨by simp,fun g h=>by simpa using h⟩
  ·rw [if_neg hk]
   refine ⟨?_,fun g h=>?_⟩
   ·rw [List.map_cons]
    exact List.mem_cons_of_mem _ i1
   ·rw [List.map_cons] at h ⊢
    rcases List.mem_cons.mp h with e | e
    ·exact List.mem_cons.mpr (.inl e)
    ·exact List.mem_cons_of_mem _ (i2 g e)
theorem am0 (f:Str)(v:V):∀ fs:List (Str×V),(z9 f v fs).length<=fs.length+1
 | []=>by simp [z9]
 | (k,x)::r=>by
  have ih:=am0 f v r
  rw [show z9 f v ((k,x)::r)=(if k=f then (k,v)::r else (k,x)::z9 f v r) from rfl]
  by_cases hk:k=f
  ·rw [if_pos hk,List.length_cons,List.length_cons];omega
  ·rw [if_neg hk,List.length_cons,List.length_cons];omega
theorem V3.some_of {v:V}{o:Option Value}(r:V3 (some v) o):∃ u,o=some u/\t9 v u:=by
 cases o with
 | none=>exact (show False from r).elim
 | some u=>exact ⟨u,rfl,r⟩
theorem V3.none_of {o:Option Value}(r:V3 none o):o=none:=by
 cases o with
 | none=>rfl
 | some u=>exact (show False from r).elim
theorem ax7 {v:V}{u:Value}(r:t9 v u):W.handedIn u=true:=by
 cases v with
 | non=>cases (show u=Value.none from r);rfl
 | bl b=>cases (show u=Value.bool b from r);rfl
 | int i=>obtain ⟨t,e⟩:=(show ∃ t,u=Value.int i t from r);cases e;rfl
 | str x=>obtain ⟨t,e⟩:=(show ∃ t,u=Value.str x t from r);cases e;rfl
 | byt b=>obtain ⟨t,e⟩:=(show ∃ t,u=Value.bytes b t from r);cases e;rfl
 | flt b=>obtain ⟨t,e⟩:=(show ∃ t,u=Value.float b t from r);cases e;rfl
 | ref a=>cases (show u=Value.ref a from r);rfl
 | ty n=>cases (show u=Value.type n from r);rfl
section
variable {P:Program}{w:World}{H H':Hp}{h h':Heap}{a C dx:Addr}{fs fs':List (Str×V)}
theorem aC6 (hok:HOk P w H h)(e:H a=some (.ins C dx fs)):∃ mA,aP3 h a dx C mA/\(∀ f,V3 (fs.lookup f) (mA f))/\PySem.Within mA (fs.map (·.1))/\fs.length<=1000/\H dx=some (.own a):=by
 obtain ⟨d,z,ne,ob,mA,n,r,q⟩:=(show r9 P w H h a (.ins C dx fs) from hok a _ e)
 exact ⟨mA,⟨ob,n,ne⟩,r,q,z,d⟩
end
structure Cls (K:W.Frag)(C:Addr):Prop where
 pg:W.plainGet K C Str.empty=true
 hd:W.hasDictIn K C=true
 po:W.plainOver K C=true
 sa:W.findIn K (.ref C) "__setattr__"=some (some (.builtin "object.__setattr__"))
theorem Cls.get {K:W.Frag}{C:Addr}(c:Cls K C)(f:Str):W.plainGet K C f=true:=c.pg
def l8 (K:W.Frag)(C:Addr)(f:Str):Prop:=W.findIn K (.ref C) f=some none
theorem l8.taker {K:W.Frag}{C:Addr}{f:Str}(n:l8 K C f):W.takerIn K C f=some none:=by
 unfold W.takerIn
 rw [show W.findIn K (.ref C) f=some none from n]
 rfl
structure bb3 (K:W.Frag)(C:Addr)(m:Str)(f:Addr):Prop where
 at_:W.findIn K (.ref C) m=some (some (.ref f))
 fn:W.isFn K (.ref f)=true
 kp:W.keepIn K (.ref f)=true
section
variable {X:Cx}{pins:List (Addr×Obj)}{σ:St}{H:Hp}{s:Shared}{a C dx:Addr}{fs:List (Str×V)}{f:Str}{v:V}{A:Around}{E:Value->Shared->Prop}
theorem aO3 {b:Bool}{Q:Value->Shared->Prop}(I:Inv X pins σ H s)(e:H a=some (.ins C dx fs))(c:Cls X.K C)(n:l8 X.K C f)(l:fs.lookup f=some v)
  (h:∀ u s',Inv X pins σ H s'->t9 v u->Q u s'):wpAny (model X.prog X.w) A (getAttr (.ref a) f b) Q E s:=by
 obtain ⟨mA,O,r,_,_,_⟩:=aC6 I.hok e
 obtain ⟨u,hu,ru⟩:=V3.some_of (v:=v) (o:=mA f) (by rw [<-l];exact r f)
 exact bx2 I.kIn O (c.get f) c.hd n hu (ax7 ru) (h u _ (I.tok _) ru)
theorem ae9 {m:Str}{g:Addr}{pl:Sem Bool}{Q:Value×List Value->Shared->Prop}(I:Inv X pins σ H s)(e:H a=some (.ins C dx fs))(c:Cls X.K C)(k:bb3 X.K C m g)(l:fs.lookup m=none)
  (h:Q (.ref g,[.ref a]) s):wpAny (model X.prog X.w) A (getMethod (.ref a) m pl) Q E s:=by
 obtain ⟨mA,O,r,_,_,_⟩:=aC6 I.hok e
 have hn:mA m=none:=V3.none_of (by rw [<-l];exact r m)
 exact bn0 I.kIn O (c.get m) k.at_ k.fn hn h
theorem aL9 {y:V}{u:Value}{Q:Unit->Shared->Prop}(I:Inv X pins σ H s)(e:H a=some (.ins C dx fs))(c:Cls X.K C)(n:l8 X.K C f)(hl:fs.length < 1000)(ry:t9 y u)
  (h:∀ s',Inv X pins σ (upd H a (.ins C dx (z9 f y fs))) s'->Q () s'):wpAny (model X.prog X.w) A (setAttr (.ref a) f u) Q E s:=by
 obtain ⟨mA,O,r,wi,_,ho⟩:=aC6 I.hok e
 have hz:(fs.map (·.1)).length<=sizeLine:=by rw [List.length_map,sizeLine_eq];omega
 refine bq9 I.kIn O c.sa c.po n.taker c.hd wi hz fun h' O' sb=>h _ ?_
 have hd:∃ o,h'.get? dx=some o:=let ⟨o,_,_,e',_⟩:=O'.ns;⟨o,e'⟩
 refine I.write (x:=a) (e:=dx) (by rw [e];exact True.intro) (.inr ho) (fun b q hb z=>(sb.2 b hb).trans z) hd ?_
 refine ⟨by rw [d6 O.ne];exact ho,?_,O.ne,O'.obj,_,O'.ns,fun g=>?_,fun g hg=>?_⟩
 ·have:=am0 f y fs;omega
 ·show V3 ((z9 f y fs).lookup g) (if g=f then some u else mA g)
  rw [aa7]
  by_cases q:g=f
  ·rw [if_pos q,if_pos q];exact ry
  ·rw [if_neg q,if_neg q];exact r g
 ·by_cases q:g=f
  ·rw [q];exact (U7 f y fs).1
  ·refine (U7 f y fs).2 g (wi g fun z=>hg ?_)
   show (if g=f then some u else mA g)=none
   rw [if_neg q];exact z
theorem Inv.made (I:Inv X pins σ H s):Inv X pins σ (upd (upd H s.heap.objs.size (.own (s.heap.objs.size+1))) (s.heap.objs.size+1) (.ins C s.heap.objs.size []))
  { s with heap:=(s.heap.push W.emptyDict).push (W.instObj C s.heap.objs.size) }:=by
 have e1:(s.heap.push W.emptyDict).get? s.heap.objs.size=some W.emptyDict:=Heap.get?_push_size s.heap rfl
 have e2:((s.heap.push W.emptyDict).push (W.instObj C s.heap.objs.size)).get? (s.heap.objs.size+1)=some (W.instObj C s.heap.objs.size):=by
  have:=Heap.get?_push_size (s.heap.push W.emptyDict) (o:=W.instObj C s.heap.objs.size) rfl
  rwa [Heap.size_push] at this
 have e3:(s.heap.push W.emptyDict).Ns s.heap.objs.size (fun _=>none):=⟨W.emptyDict,#[],_,e1,rfl,(fun e he=>absurd he (by simp)),fun _=>rfl⟩
 have I1:=I.laid (a:=s.heap.objs.size) (o:=.own (s.heap.objs.size+1)) (h':=s.heap.push W.emptyDict) (t':=s.toks) (fun b u q=>Heap.get?_push_of_some _ q) (Nat.le_refl _) ⟨_,e1⟩
 refine I1.laid (a:=s.heap.objs.size+1) (o:=.ins C s.heap.objs.size []) (t':=s.toks) (fun b u q=>Heap.get?_push_of_some _ q) (Nat.le_of_eq (Heap.size_push _ _)) ?_
 have ne:s.heap.objs.size≠s.heap.objs.size+1:=Nat.ne_of_lt (Nat.lt_succ_self _)
 refine ⟨by rw [d6 ne,c7],Nat.zero_le _,ne,e2,fun _=>none,(Heap.Ns1.of_empty e3).at fun o q=>Heap.get?_push_of_some _ q,fun _=>True.intro,fun y hy=>absurd rfl hy⟩
theorem aU7 {prog:Program}{w:World}{env:Env}{e:Expr}{f:Str}{pos:Pos}{s:Shared}{Q:Value->Shared->Prop}(hb:attributeBase e f env (eval e env)=eval e env)
  (h:wpAny (model prog w) A (eval e env) (fun o s₁=>wpAny (model prog w) A (getAttr o f true) Q E s₁) E s):wpAny (model prog w) A (eval (.Attribute e f pos) env) Q E s :=
 Attribute_any_ h (by rw [arm_eval_Attribute,hb])
end
def bT3 (K:W.Frag)(ta:TE)(f:Str):TE:=fun σ H Q=>ta σ H fun x H1=>∃ a C dx fs v,x=.ref a/\H1 a=some (.ins C dx fs)/\Cls K C/\l8 K C f/\fs.lookup f=some v/\Q v H1
def bT7 (K:W.Frag)(ta tv:TE)(f:Str):TS:=fun D σ H=>tv σ H fun y H1=>ta σ H1 fun x H2=>∃ a C dx fs,x=.ref a/\H2 a=some (.ins C dx fs)/\Cls K C/\l8 K C f/\fs.length < 1000 /\
 D.nx σ (upd H2 a (.ins C dx (z9 f y fs)))
section
variable {X:Cx}{o e value:Expr}{f:Str}{pos pos' tpos:Pos}{ta tv:TE}
theorem l9 (he:PE X e ta)(hb:attributeBase e f X.env (eval e X.env)=eval e X.env):PE X (.Attribute e f pos) (bT3 X.K ta f):=by
 intro pins s σ H Q I h
 refine aU7 hb (thn (he pins s σ H _ I h) fun u s1 ⟨x,H1,I1,rx,a,C,dx,fs,v,ex,ea,c,n,l,q⟩=>?_)
 subst ex
 obtain rfl:u=Value.ref a:=rx
 exact aO3 I1 ea c n l fun u' s2 I2 ru=>⟨v,H1,I2,ru,q⟩
theorem A0 (ha:PE X o ta)(hv:PE X value tv)(hs:swapsWith value (some (.Attribute o f pos')) pos.line X.env=pure false):PS X (.Assign [.Attribute o f pos'] value pos) (bT7 X.K ta tv f):=by
 intro pins s σ H D I h
 refine plainObj_wpAny_Assign_Attribute (thn (hv pins s σ H _ I h) fun u s1 ⟨y,H1,I1,ry,q⟩=>thn (ha pins s1 σ H1 _ I1 q) fun ov s2 ⟨x,H2,I2,rx,a,C,dx,fs,ex,ea,c,n,l,q2⟩=>?_) hs
 subst ex
 obtain rfl:ov=Value.ref a:=rx
 exact aL9 I2 ea c n l ry fun s3 I3=>⟨σ,_,I3,q2⟩
theorem bB2 {pl:Sem Bool}{m:Str}{apos:Pos}{args:List Expr}{pins:List (Addr×Obj)}{s:Shared}{σ:St}{H:Hp}{Q:Value->Shared->Prop}{te:TE}(he:PE X e te)(I:Inv X pins σ H s)
  (h:te σ H fun x H1=>∃ a C dx fs g,x=.ref a/\H1 a=some (.ins C dx fs)/\Cls X.K C/\bb3 X.K C m g/\fs.lookup m=none /\
   ∀ s1,Inv X pins σ H1 s1->wpAny (model X.prog X.w) X.A (callWith pos (.ref g) [.ref a] (backTo pos (starEach args X.env)) (backToKw pos (keywordEach [] X.env))) Q X.xe s1)
  (ht:eval (.Call (.Attribute e m apos) args [] pos) X.env=(do
   let ov ← eval e X.env
   standAt apos.atName
   let (f,first) ← holding [ov] (getMethod ov m pl)
   callWith pos f first (backTo pos (starEach args X.env)) (backToKw pos (keywordEach [] X.env)))) :
  wpAny (model X.prog X.w) X.A (eval (.Call (.Attribute e m apos) args [] pos) X.env) Q X.xe s:=by
 refine W.methodCall_KW (pl:=pl) (thn (he pins s σ H _ I h) fun u s1 ⟨x,H1,I1,rx,a,C,dx,fs,g,ex,ea,c,k,l,q⟩=>?_) ht
 subst ex
 obtain rfl:u=Value.ref a:=rx
 exact ae9 I1 ea c k l (q s1 I1)
end
end L2
namespace L2
open PySem PySem.Spec PyProof.Rows
structure C2 (k:Nat)(A:Around):Prop where
 hd:A.handled=none
 dp:A.depth+3*k+205 < recursionLimit
 un:A.units+16*k+200 < cLine
theorem C2.mono {j k:Nat}{A:Around}(r:C2 k A)(h:j<=k):C2 j A:=⟨r.hd,by have:=r.dp;omega,by have:=r.un;omega⟩
theorem C2.deeper {k:Nat}{A:Around}(r:C2 (k+1) A)(env:Env):C2 k (A.deeper env) :=
 ⟨r.hd,by have:=r.dp;show A.depth+1+3*k+205 < _;omega,by have:=r.un;show A.units+3+16*k+200 < _;omega⟩
theorem aN5 {A:Around}{C:Addr}{us:List Value}{kw:List (Str×Value)}:(A.under (.builtin "type.__call__" ⟨.ref C::us,kw⟩)).depth=A.depth+1:=by
 first | rfl | simp [Around.under,Code.weight,Code.isCreation,Code.isGuard,Code.isCaller,Code.frames,Code.isFrame,guardIds]
theorem aN4 {A:Around}{C:Addr}{us:List Value}{kw:List (Str×Value)}:(A.under (.builtin "type.__call__" ⟨.ref C::us,kw⟩)).units=A.units+1:=by
 first | rfl | simp [Around.under,Code.cUnits,Code.frames,Code.isFrame]
theorem C2.make {k:Nat}{A:Around}(r:C2 (k+1) A)(C:Addr)(us:List Value)(kw:List (Str×Value)):C2 k (A.under (.builtin "type.__call__" ⟨.ref C::us,kw⟩)) :=
 ⟨r.hd,by have:=r.dp;rw [aN5];omega,by have:=r.un;rw [aN4];omega⟩
theorem C2.depth {k:Nat}{A:Around}(r:C2 k A):A.depth < recursionLimit:=by have:=r.dp;omega
theorem C2.units {k:Nat}{A:Around}(r:C2 k A):A.units+64 < cLine:=by have:=r.un;omega
def am7:TA:=fun _ H Q=>Q [] H
def F8 (ta:TE)(tr:TA):TA:=fun σ H Q=>ta σ H fun x H1=>tr σ H1 fun xs H2=>Q (x::xs) H2
section
variable {X:Cx}{e:Expr}{es:List Expr}{te:TE}{t:TA}{pos:Pos}
theorem c9:PA X [] am7:=fun _ _ _ _ H Q I h=>Calls.spliced_nil ⟨[],H,I,.nil,h⟩
theorem b0 (ha:PE X e te)(hr:PA X es t)(hs:starEach (e::es) X.env=(false,eval e X.env)::starEach es X.env:=by rfl):PA X (e::es) (F8 te t):=by
 intro pos pins s σ H Q I h
 rw [hs]
 show wpAny _ _ (spliced ((false,eval e X.env)::backTo pos (starEach es X.env))) _ _ s
 refine Calls.spliced_cons (thn (ha pins s σ H _ I h) fun u s1 ⟨x,H1,I1,r1,q1⟩=>?_)
 exact thn (hr pos pins s1 σ H1 _ I1 q1) fun us s2 ⟨xs,H2,I2,r2,q2⟩=>⟨x::xs,H2,I2,.cons r1 r2,q2⟩
def be1 (t:TA):TE:=fun σ H Q=>t σ H fun xs H1=>xs.length<=sizeLine/\∀ p,H1 p=none->Q (.ref p) (upd H1 p (.tup xs))
def bM9 (t:TA):TE:=fun σ H Q=>t σ H fun xs H1=>xs.length<=sizeLine/\∀ p,H1 p=none->Q (.ref p) (upd H1 p (.lst xs))
theorem y1 {x1}(h:PA X es t):PE X (.Tuple es x1 pos) (be1 t):=by
 intro pins s σ H Q I hq
 refine wpAny_Tuple_spliced (thn (h pos pins s σ H _ I hq) fun us s1 ⟨xs,H1,I1,r,z,q⟩=>⟨by rw [<-r.length];exact z,?_⟩)
 have hf:H1 s1.heap.objs.size=none:=I1.hok.fresh (Nat.le_refl _)
 refine ⟨.ref s1.heap.objs.size,upd H1 s1.heap.objs.size (.tup xs),I1.laid (t':=s1.toks) (fun b u e=>Heap.get?_push_of_some _ e) (Nat.le_refl _) ?_,rfl,q _ hf⟩
 exact ⟨z,us,r,⟨_,Heap.get?_push_size _ rfl,rfl,_,rfl⟩⟩
theorem B2 (h:PA X es t):PE X (.List es pos) (bM9 t):=by
 intro pins s σ H Q I hq
 refine wpAny_List_spliced (thn (h pos pins s σ H _ I hq) fun us s1 ⟨xs,H1,I1,r,z,q⟩=>⟨by rw [<-r.length];exact z,?_⟩)
 have hf:H1 s1.heap.objs.size=none:=I1.hok.fresh (Nat.le_refl _)
 refine ⟨.ref s1.heap.objs.size,upd H1 s1.heap.objs.size (.lst xs),I1.laid (t':=s1.toks) (fun b u e=>Heap.get?_push_of_some _ e) (Nat.le_refl _) ?_,rfl,q _ hf⟩
 exact ⟨z,us,0,r,Heap.get?_push_size _ rfl⟩
end
abbrev Sp:=List V->Hp->VK->XK->Prop
abbrev CXT:=List Env->Hp->Shared->XK->Value->Shared->Prop
structure at9 (P:Program)(w:World)(K:W.Frag)(mg:Str->Option Value)(base:Heap)(A:Around)(outer:List Env)(s:Shared)(H:Hp):Prop where
 frames:A.frames=some outer
 mod:Mod K mg base
 bs:∀ b o,base.get? b=some o->s.heap.get? b=some o/\H b=none
 bsz:base.objs.size<=s.heap.objs.size
 funs:s.heap.FunFrames base outer
 frf:∀ b∈frs outer,H b=none
 hok:HOk P w H s.heap
 bare:AllBare s.gens
def CE (outer:List Env)(P:Program)(w:World)(H:Hp)(s:Shared)(Q:VK)(u:Value)(s':Shared):Prop :=
 ∃ v H',s'.os=s.os/\AllBare s'.gens/\Un (frs outer) [] H H' s.heap s'.heap/\HOk P w H' s'.heap/\t9 v u/\Q v H'
def CR (CX:CXT)(outer:List Env)(P:Program)(w:World)(H:Hp)(s:Shared)(Q:VK)(E:XK)(r:Result)(s':Shared):Prop :=
 match r with
 | .ok (.ret u)=>CE outer P w H s Q u s'
 | .ok _=>False
 | .error e=>CX outer H s E e s'
structure l6 (P:Program)(w:World)(K:W.Frag)(mg:Str->Option Value)(base:Heap)(CX:CXT)(k:Nat)(f:Addr)(fd:FuncData)(ps:List Str)(sp:Sp):Prop where
 len:∀ vs H Q E,sp vs H Q E->vs.length=ps.length
 run:∀ (A:Around) (outer:List Env) (s:Shared) (H:Hp) (args:Args) (us:List Value) (vs:List V) (Q:VK) (E:XK),C2 k A->at9 P w K mg base A outer s H->BindsTo s fd args (ps.zip us)->n9 vs us->sp vs H Q E ->
  codeAny (model P w) A (.call (.ref f) args) (CR CX outer P w H s Q E) s
theorem at9.make {P:Program}{w:World}{K:W.Frag}{mg:Str->Option Value}{base:Heap}{A:Around}{outer:List Env}{s:Shared}{H:Hp}(e:at9 P w K mg base A outer s H)(C:Addr)(us:List Value)(kw:List (Str×Value)) :
  at9 P w K mg base (A.under (.builtin "type.__call__" ⟨.ref C::us,kw⟩)) outer s H:=⟨by first | exact e.frames | (simpa [Around.under,Code.envs,Code.isFrame,pushEnvs] using e.frames),e.mod,e.bs,e.bsz,e.funs,e.frf,e.hok,e.bare⟩
section
variable {X:Cx}{pins:List (Addr×Obj)}{σ:St}{H:Hp}{s s':Shared}
theorem Inv.env0 (I:Inv X pins σ H s):at9 X.prog X.w X.K X.mg X.base X.A X.stack s H :=
 ⟨I.ok.frames,I.ok.mod,I.bs,Nat.le_trans I.ok.bsz I.sz,I.stack,I.stkFree,I.hok,I.bare⟩
theorem Inv.after {Q:VK}{u:Value}(I:Inv X pins σ H s)(h:CE X.stack X.prog X.w H s Q u s'):EP X pins σ Q u s':=by
 obtain ⟨v,H',os,bare,un,hok,r,q⟩:=h
 obtain ⟨hh,g,d,t,os'⟩:=s'
 obtain rfl:os'=s.os:=os
 exact ⟨v,H',I.call (h':=hh) (g':=g) (d':=d) (t':=t) (ch:=[]) un hok bare (fun b z=>absurd z (by simp)),r,q⟩
end
def be5 (sp:Sp)(dvs:List V)(E:XK)(t:TA):TE:=fun σ H Q=>t σ H fun vs H1=>sp (vs++dvs) H1 Q E
def aQ2 (C:Addr)(m:Str)(sp:Sp)(dvs:List V)(E:XK)(ta:TE)(t:TA):TE:=fun σ H Q=>ta σ H fun x H1=>∃ a dx fs,x=.ref a/\H1 a=some (.ins C dx fs)/\fs.lookup m=none /\
 t σ H1 fun vs H2=>sp (x::(vs++dvs)) H2 Q E
def bz6 (C:Addr)(sp:Sp)(dvs:List V)(E:XK)(t:TA):TE:=fun σ H Q=>t σ H fun vs H1=>∀ x dx,H1 x=none->H1 dx=none->dx≠x ->
 sp (.ref x::(vs++dvs)) (upd (upd H1 dx (.own x)) x (.ins C dx [])) (fun v H2=>v=.non/\Q (.ref x) H2) E
def P7 (K:W.Frag)(fd:FuncData)(ps:List Str)(ds:List Value):Prop :=
 ∀ (s:Shared) (us:List Value),K.In s.heap->(us++ds).length=ps.length->BindsTo s fd ⟨us,[]⟩ (ps.zip (us++ds))
theorem P7.all {K:W.Frag}{fd:FuncData}{ps:List Str}(h:∀ us:List Value,us.length=ps.length->bindArgs fd ⟨us,[]⟩=pure (ps.zip us)):P7 K fd ps []:=fun s us _ hl=>by
 rw [List.append_nil] at hl ⊢
 exact .of_eq (h us hl)
def B3 (CX:CXT)(X:Cx)(E:XK):Prop:=∀ (pins:List (Addr×Obj)) (σ:St) (H:Hp) (s:Shared) (e:Value) (s':Shared),Inv X pins σ H s->CX X.stack H s E e s'->X.xe e s'
section
variable {X:Cx}{CX:CXT}{k:Nat}{f C:Addr}{fd:FuncData}{ps:List Str}{sp:Sp}{dvs:List V}{ds:List Value}{E:XK}{x m:Str}{p pos apos:Pos}{e o:Expr}{es:List Expr}{ta:TE}{t:TA}
theorem aM5 {pins:List (Addr×Obj)}{σ:St}{H:Hp}{s:Shared}{Q:VK}{us:List Value}{vs:List V}(F:l6 X.prog X.w X.K X.mg X.base CX k f fd ps sp)(hr:C2 k X.A)(hb:P7 X.K fd ps ds)(hd:n9 dvs ds)(hx:B3 CX X E)
  (I:Inv X pins σ H s) (r:n9 vs us) (h:sp (vs++dvs) H Q E):wpAny (model X.prog X.w) X.A (call (.ref f) us) (EP X pins σ Q) X.xe s:=by
 have r2:n9 (vs++dvs) (us++ds):=r.append hd
 have hl:(us++ds).length=ps.length:=by rw [<-r2.length];exact F.len _ _ _ _ h
 refine wpAny_call (codeAny_mono (F.run X.A X.stack s H ⟨us,[]⟩ (us++ds) (vs++dvs) Q E hr I.env0 (hb s us I.kIn hl) r2 h) fun r s' hq=>?_)
 cases r with
 | error e=>exact hx pins σ H s e s' I hq
 | ok fl =>
  cases fl with
  | ret u=>exact I.after hq
  | next=>exact False.elim hq
  | brk=>exact False.elim hq
  | cont=>exact False.elim hq
theorem bs6 (F:l6 X.prog X.w X.K X.mg X.base CX k f fd ps sp)(hr:C2 k X.A)(hg:Gl X x)(hm:X.mg x=some (.ref f))(hk:W.keepIn X.K (.ref f)=true)(hb:P7 X.K fd ps ds)(hd:n9 dvs ds)(hx:B3 CX X E)
  (ha:PA X (e::es) t) (hdb:(x == ("__debug__" : Str))=false:=by decide) (he:starEach (e::es) X.env=(false,eval e X.env)::starEach es X.env:=by rfl) (hpl:(backTo pos (starEach es X.env)).any (·.1)=false:=by rfl) :
  PE X (.Call (.Name x p) (e::es) [] pos) (be5 sp dvs E t):=by
 intro pins s σ H Q I h
 refine wpAny_Call_Name_kw (X6 I hg hm ?_ hdb)
 refine W.callWith_K (h₀:=X.base) I.ok.mod.kin hk (thn (ha pos pins s σ H _ I h) fun us s1 ⟨vs,H1,I1,r,q⟩=>⟨I1.kIn,?_⟩) he hpl
 exact aM5 F hr hb hd hx I1 r q
theorem bs1 {pl:Sem Bool}(he:PE X o ta)(c:Cls X.K C)(hm:bb3 X.K C m f)(F:l6 X.prog X.w X.K X.mg X.base CX k f fd ps sp)(hr:C2 k X.A)(hb:P7 X.K fd ps ds)(hd:n9 dvs ds)(hx:B3 CX X E)(ha:PA X (e::es) t)
  (hst:starEach (e::es) X.env=(false,eval e X.env)::starEach es X.env:=by rfl) (hpl:(backTo pos (starEach es X.env)).any (·.1)=false:=by rfl)
  (ht:eval (.Call (.Attribute o m apos) (e::es) [] pos) X.env=(do
   let ov ← eval o X.env
   standAt apos.atName
   let (f,first) ← holding [ov] (getMethod ov m pl)
   callWith pos f first (backTo pos (starEach (e::es) X.env)) (backToKw pos (keywordEach [] X.env))):=by rfl) :
  PE X (.Call (.Attribute o m apos) (e::es) [] pos) (aQ2 C m sp dvs E ta t):=by
 intro pins s σ H Q I h
 refine W.methodCall_KW (pl:=pl) (thn (he pins s σ H _ I h) fun u s1 ⟨x,H1,I1,rx,a,dx,fs,ex,ea,l,q⟩=>?_) ht
 subst ex
 obtain rfl:u=Value.ref a:=rx
 refine ae9 I1 ea c hm l ?_
 refine W.callWith_K (first:=[.ref a]) (h₀:=X.base) I.ok.mod.kin hm.kp (thn (ha pos pins s1 σ H1 _ I1 q) fun us s2 ⟨vs,H2,I2,r,q2⟩=>⟨I2.kIn,?_⟩) hst hpl
 exact aM5 (us:=.ref a::us) (vs:=.ref a::vs) F hr hb hd hx I2 (.cons rfl r) q2
theorem bi3 {pl:Sem Bool}(he:PE X o ta)(c:Cls X.K C)(hm:bb3 X.K C m f)(F:l6 X.prog X.w X.K X.mg X.base CX k f fd ps sp)(hr:C2 k X.A)(hb:P7 X.K fd ps ds)(hd:n9 dvs ds)(hx:B3 CX X E)
  (ht:eval (.Call (.Attribute o m apos) [] [] pos) X.env=(do
   let ov ← eval o X.env
   standAt apos.atName
   let (f,first) ← holding [ov] (getMethod ov m pl)
   callWith pos f first (backTo pos (starEach [] X.env)) (backToKw pos (keywordEach [] X.env))):=by rfl) :
  PE X (.Call (.Attribute o m apos) [] [] pos) (aQ2 C m sp dvs E ta am7):=by
 intro pins s σ H Q I h
 refine W.methodCall_KW (pl:=pl) (thn (he pins s σ H _ I h) fun u s1 ⟨x,H1,I1,rx,a,dx,fs,ex,ea,l,q⟩=>?_) ht
 subst ex
 obtain rfl:u=Value.ref a:=rx
 refine ae9 I1 ea c hm l ?_
 exact W.callWith_K0 (first:=[.ref a]) I1.kIn hm.kp (aM5 (us:=[.ref a]) (vs:=[.ref a]) F hr hb hd hx I1 (.cons rfl .nil) q)
structure Mk (K:W.Frag)(C f:Addr):Prop where
 makes:W.makesIn K C=true
 init:W.findIn K (.ref C) "__init__"=some (some (.ref f))
 fn:W.isFn K (.ref f)=true
 kp:W.keepIn K (.ref C)=true
theorem bh2 {pins:List (Addr×Obj)}{σ:St}{H:Hp}{s:Shared}{Q:VK}{us:List Value}{vs:List V}(M:Mk X.K C f)(F:l6 X.prog X.w X.K X.mg X.base CX k f fd ps sp)(hr:C2 (k+1) X.A)(hb:P7 X.K fd ps ds)(hd:n9 dvs ds)
  (hx:B3 CX X E) (I:Inv X pins σ H s) (r:n9 vs us)
  (h:∀ x dx,H x=none->H dx=none->dx≠x->sp (.ref x::(vs++dvs)) (upd (upd H dx (.own x)) x (.ins C dx [])) (fun v H2=>v=.non/\Q (.ref x) H2) E) :
  wpAny (model X.prog X.w) X.A (call (.ref C) us) (EP X pins σ Q) X.xe s:=by
 have hq:=h (s.heap.objs.size+1) s.heap.objs.size (I.hok.fresh (Nat.le_succ _)) (I.hok.fresh (Nat.le_refl _)) (Nat.ne_of_lt (Nat.lt_succ_self _))
 have I2:=Inv.made (C:=C) I
 have r2:n9 (V.ref (s.heap.objs.size+1)::(vs++dvs)) (Value.ref (s.heap.objs.size+1)::(us++ds)):=.cons rfl (r.append hd)
 have hl:(Value.ref (s.heap.objs.size+1)::us++ds).length=ps.length:=by
  have e:=r2.length
  rw [F.len _ _ _ _ hq] at e
  exact e.symm
 refine wpAny_call (bk8 (f:=f) I.kIn M.makes M.init (beq_iff_eq.mp M.fn) (codeAny_mono (F.run _ X.stack _ _ ⟨Value.ref (s.heap.objs.size+1)::us,[]⟩ (Value.ref (s.heap.objs.size+1)::(us++ds)) _ _ E (hr.make C us [])
  (I2.env0.make C us []) (hb _ (Value.ref (s.heap.objs.size+1)::us) I2.kIn hl) r2 hq) fun r s' hq'=>?_))
 cases r with
 | error e=>exact hx pins σ _ _ e s' I2 hq'
 | ok fl =>
  cases fl with
  | ret u =>
   obtain ⟨v,H',I3,rv,ev,q3⟩:=I2.after hq'
   subst ev
   exact ⟨rv,⟨V.ref (s.heap.objs.size+1),H',I3,rfl,q3⟩⟩
  | next=>exact False.elim hq'
  | brk=>exact False.elim hq'
  | cont=>exact False.elim hq'
theorem bs2 (M:Mk X.K C f)(F:l6 X.prog X.w X.K X.mg X.base CX k f fd ps sp)(hr:C2 (k+1) X.A)(hg:Gl X x)(hm:X.mg x=some (.ref C))(hb:P7 X.K fd ps ds)(hd:n9 dvs ds)(hx:B3 CX X E)
  (ha:PA X (e::es) t) (hdb:(x == ("__debug__" : Str))=false:=by decide) (he:starEach (e::es) X.env=(false,eval e X.env)::starEach es X.env:=by rfl) (hpl:(backTo pos (starEach es X.env)).any (·.1)=false:=by rfl) :
  PE X (.Call (.Name x p) (e::es) [] pos) (bz6 C sp dvs E t):=by
 intro pins s σ H Q I h
 refine wpAny_Call_Name_kw (X6 I hg hm ?_ hdb)
 refine W.callWith_K (h₀:=X.base) I.ok.mod.kin M.kp (thn (ha pos pins s σ H _ I h) fun us s1 ⟨vs,H1,I1,r,q⟩=>⟨I1.kIn,?_⟩) he hpl
 exact bh2 M F hr hb hd hx I1 r q
end
structure g9 (N P:List Str)(sc:Scope):Prop where
 kind:sc.kind=.function
 co:sc.isCoroutine=false
 gen:sc.isGenerator=false
 nd:N.Nodup
 pre:N.take P.length=P
 par:∀ x∈P,sc.names.lookup x=some .local \/sc.names.lookup x=some .cell
 nofree:∀ y∈sc.names,y.2≠.free
theorem ay4 {kindOf:Str->Option NameKind}{x:Str}:∀ {binds:List (Str×Value)}{m:Str->Option Value},(∀ v,(x,v)∉binds)->bindL kindOf binds m x=m x
 | [],_,_=>rfl
 | (n,v)::r,m,h=>by
  unfold bindL
  rw [ay4 fun w hw=>h w (List.mem_cons_of_mem _ hw)]
  split
  ·have:x≠n:=by rintro rfl;exact h v List.mem_cons_self
   simp [this]
  ·rfl
theorem ay6 {kindOf:Str->Option NameKind}{x:Str}:∀ {binds:List (Str×Value)}{m:Str->Option Value},(∀ v,(x,v)∉binds)->bindC kindOf binds m x=m x
 | [],_,_=>rfl
 | (n,v)::r,m,h=>by
  unfold bindC
  rw [ay6 fun w hw=>h w (List.mem_cons_of_mem _ hw)]
  split
  ·rfl
  ·have:x≠n:=by rintro rfl;exact h v List.mem_cons_self
   simp [this]
theorem ay5 {kindOf:Str->Option NameKind}{x:Str}{v:Value}:∀ {P:List Str}{vs:List Value}{i:Nat}{m:Str->Option Value},P.Nodup->P[i]?=some x->vs[i]?=some v->kindOf x=some .local ->
  bindL kindOf (P.zip vs) m x=some v
 | [],_,_,_,_,h,_,_=>by simp at h
 | _::_,[],_,_,_,_,h,_=>by simp at h
 | p::P,w::vs,0,m,nd,h1,h2,hk=>by
  simp at h1 h2;subst h1;subst h2
  show bindL kindOf ((p,w)::P.zip vs) m p=_
  unfold bindL
  rw [ay4 fun v hv=>(List.nodup_cons.mp nd).1 (List.of_mem_zip hv).1,if_pos hk]
  simp
 | p::P,w::vs,i+1,m,nd,h1,h2,hk=>by
  show bindL kindOf ((p,w)::P.zip vs) m x=_
  unfold bindL
  exact ay5 (i:=i) (List.nodup_cons.mp nd).2 (by simpa using h1) (by simpa using h2) hk
theorem ay7 {kindOf:Str->Option NameKind}{x:Str}{v:Value}:∀ {P:List Str}{vs:List Value}{i:Nat}{m:Str->Option Value},P.Nodup->P[i]?=some x->vs[i]?=some v->kindOf x≠some .local ->
  bindC kindOf (P.zip vs) m x=some v
 | [],_,_,_,_,h,_,_=>by simp at h
 | _::_,[],_,_,_,_,h,_=>by simp at h
 | p::P,w::vs,0,m,nd,h1,h2,hk=>by
  simp at h1 h2;subst h1;subst h2
  show bindC kindOf ((p,w)::P.zip vs) m p=_
  unfold bindC
  rw [ay6 fun v hv=>(List.nodup_cons.mp nd).1 (List.of_mem_zip hv).1,if_neg hk]
  simp
 | p::P,w::vs,i+1,m,nd,h1,h2,hk=>by
  show bindC kindOf ((p,w)::P.zip vs) m x=_
  unfold bindC
  exact ay7 (i:=i) (List.nodup_cons.mp nd).2 (by simpa using h1) (by simpa using h2) hk
def start (N:List Str)(vs:List V):St:=vs.map some++List.replicate (N.length - vs.length) none
def ah6 (CX:CXT)(P:Program)(w:World)(K:W.Frag)(mg:Str->Option Value)(base:Heap)(N:List Str)(qual:Str)(scope:Scope)(f:Addr)(cd:Value)(A:Around)(outer:List Env)(s:Shared)(H:Hp)(E:XK):Cx where
 prog:=P
 w:=w
 K:=K
 mg:=mg
 base:=base
 A:=A.deeper (envOfC qual scope s.heap.objs.size f cd)
 N:=N
 s_0:=s
 H_0:=H
 env:=envOfC qual scope s.heap.objs.size f cd
 outer:=outer
 stack:=envOfC qual scope s.heap.objs.size f cd::outer
 ex:=[]
 calm:=true
 fn:=fun _=>true
 pn:=[]
 xe:=fun e s'=>wpAny (model P w) (A.deeper (envOfC qual scope s.heap.objs.size f cd)) (leaving (envOfC qual scope s.heap.objs.size f cd) e) (fun _ s''=>CX outer H s E e s'') (fun e' s''=>CX outer H s E e' s'') s'
theorem aK0 {sc:Scope}{n:Nat}{x:Str}(h:sc.names.lookup x=some .cell):∃ c,(cellsFrom n sc.names []).lookup x=some c:=by
 have q:=W.cellsFrom_some sc.names n [] (.inl h)
 exact Option.isSome_iff_exists.mp q
theorem aZ8 {CX:CXT}{P:Program}{w:World}{K:W.Frag}{mg:Str->Option Value}{base:Heap}{N ps:List Str}{qual:Str}{scope:Scope}{f:Addr}{cd:Value}{A:Around}{outer:List Env}{s s1:Shared}{H:Hp}{E:XK}{us:List Value}{vs:List V}
  (S:g9 N ps scope) (hd:A.handled=none) (e0:at9 P w K mg base A outer s H) (hl:vs.length=ps.length) (r:n9 vs us)
  (x:InCallC s s.heap.objs.size (bindL (envOfC qual scope s.heap.objs.size f cd).kindOf (ps.zip us) fun _=>none) (cellsFrom (s.heap.objs.size+1) scope.names []) (bindC (envOfC qual scope s.heap.objs.size f cd).kindOf (ps.zip us) fun _=>none) s1) :
  Inv (ah6 CX P w K mg base N qual scope f cd A outer s H E) [] (start N vs) H s1:=by
 have hpl:ps.length<=N.length:=by have:=congrArg List.length S.pre;rw [List.length_take] at this;omega
 obtain ⟨h1,tk,rfl,hk⟩:=x.done
 have noA:∀ b:Addr,b∉(ah6 CX P w K mg base N qual scope f cd A outer s H E).ex:=fun b z=>absurd (show b∈([]:List Addr) from z) (by simp)
 refine ⟨⟨e0.mod,S.kind,rfl,rfl,Nat.le_refl _,fun y z c h1 h2=>?_,fun y hy=>?_,fun y c _ h=>?_,fun _=>hd,Around.frames_deeper e0.frames,.inr ⟨rfl,rfl⟩,fun b z=>absurd z (noA b),e0.bs,e0.bsz,fun b _ _=>noA b,fun b z=>absurd z (noA b),e0.funs,e0.frf⟩,
  rfl,e0.bare,Un.kept hk,⟨_,x.toInCall.ns,fun i y v h1 h2 h3=>?_⟩,fun y c h=>⟨_,x.cell y c h⟩,e0.hok.fresh (Nat.le_refl _),fun y c h=>?_,fun p hp=>absurd (show p∈([]:List (Addr×Obj)) from hp) (by simp),e0.hok.kept hk,?_⟩
 ·exact name_of_addr x.apart (PySem.mem_of_lookup h1) (PySem.mem_of_lookup h2)
 ·have hy:scope.names.lookup y=some .cell\/scope.names.lookup y=some .free:=hy
  rcases hy with hy | hy
  ·exact aK0 hy
  ·exact absurd rfl (S.nofree _ (PySem.mem_of_lookup hy))
 ·exact Nat.le_of_lt (x.above y c (PySem.mem_of_lookup h))
 ·have hi:i < vs.length:=by
   unfold start at h2
   by_cases hi:i < vs.length
   ·exact hi
   ·rw [List.getElem?_append_right (by simpa using hi)] at h2
    rw [List.getElem?_replicate] at h2
    split at h2<;>cases h2
  have ha:vs[i]?=some v:=by
   unfold start at h2
   rw [List.getElem?_append_left (by simpa using hi),List.getElem?_map] at h2
   cases e:vs[i]? with
   | none=>rw [e] at h2;cases h2
   | some a=>rw [e] at h2;cases h2;rfl
  obtain ⟨u,hu,rv⟩:=r.get ha
  have hp:ps[i]?=some y:=by
   rw [<-S.pre,List.getElem?_take_of_lt (by omega)];exact h1
  have ndP:ps.Nodup:=by rw [<-S.pre];exact S.nd.sublist (List.take_sublist _ _)
  refine ⟨u,rv,?_⟩
  rcases S.par y (List.mem_of_getElem? hp) with k | k
  ·exact .inl ⟨k,ay5 ndP hp hu k⟩
  ·obtain ⟨c,e⟩:=aK0 (n:=s.heap.objs.size+1) k
   refine .inr ⟨.inl k,c,e,?_⟩
   have q:=x.cell y c e
   rw [ay7 ndP hp hu (by show scope.names.lookup y≠_;rw [k];decide)] at q
   exact q
 ·exact e0.hok.fresh (Nat.le_of_lt (x.above y c (PySem.mem_of_lookup h)))
 ·unfold start
  show _=N.length
  rw [List.length_append,List.length_map,List.length_replicate]
  omega
theorem bB4 {CX:CXT}{P:Program}{w:World}{K:W.Frag}{mg:Str->Option Value}{base:Heap}{k:Nat}{f:Addr}{name qual:Str}{params:Arguments}{body:List Stmt}{scope:Scope}{dV kV doc pm cdv ct oc:Value}{an od:Option Addr}
  {osl:Array (Option Value)}{N ps:List Str}{sp:Sp} (lk:K.lookup f=some ⟨oc,od,.func (W.fnOf name qual params body scope dV kV doc pm an cdv ct),osl⟩) (hcd:W.codeIn K cdv qual=true) (S:g9 N ps scope)
  (len:∀ vs H Q E,sp vs H Q E->vs.length=ps.length)
  (hbody:∀ (A:Around) (outer:List Env) (s:Shared) (H:Hp) (vs:List V) (Q:VK) (E:XK),C2 k (A.deeper (envOfC qual scope s.heap.objs.size f cdv))->sp vs H Q E ->
   ∃ t,PSs (ah6 CX P w K mg base N qual scope f cdv A outer s H E) body t/\t { nx:=fun _ H'=>Q .non H',rt:=Q } (start N vs) H) :
  l6 P w K mg base CX (k+1) f (W.fnOf name qual params body scope dV kV doc pm an cdv ct) ps sp:=by
 refine ⟨len,fun A outer s H args us vs Q E hr e0 hb r hsp=>?_⟩
 have hl:=len _ _ _ _ hsp
 have KX:K.In s.heap:=e0.mod.kin.keeps fun b o e=>(e0.bs b o e).1
 have lim:s.heap.NoLimit:=e0.mod.nolimit.keeps fun b o e=>(e0.bs b o e).1
 have hkind:∀ y∈ps.zip us,scope.names.lookup y.1=some .local \/(scope.names.lookup y.1=some .cell/\((cellsFrom (s.heap.objs.size+1) scope.names []).lookup y.1).isSome=true):=fun ⟨n,v⟩ hy=>by
  rcases S.par n (List.of_mem_zip hy).1 with q | q
  ·exact .inl q
  ·exact .inr ⟨q,W.cellsFrom_some _ _ _ (.inl q)⟩
 refine codeAny_call_function hr.depth (KX _ _ lk) rfl S.co S.gen rfl (W.codeRec_of KX hcd) (hb _ _ _ _ ?_)
 refine wpAny_newFunctionEnv_cells S.kind hkind fun env he s1 x=>?_
 subst he
 refine ⟨lim.keeps x.toInCall.keep,codeAny_func ?_⟩
 obtain ⟨t,ht,hq⟩:=hbody A outer s H vs Q E (hr.deeper _) hsp
 have I:Inv (ah6 CX P w K mg base N qual scope f cdv A outer s H E) [] (start N vs) H s1:=aZ8 S hr.hd e0 hl r x
 refine wpAny_mono (ht [] s1 (start N vs) H _ I hq) (fun fl s' hs=>?_) fun e s' hs=>hs
 have fin:∀ {σ':St}{H':Hp}{v:V}{u:Value},Inv (ah6 CX P w K mg base N qual scope f cdv A outer s H E) [] σ' H' s'->t9 v u->Q v H'->CE outer P w H s Q u s' :=
  fun {σ' H' v u} J rv q=>⟨v,H',J.os,J.bare,J.base,J.hok,rv,q⟩
 cases fl with
 | ret u =>
  obtain ⟨v,σ',H',J,rv,q⟩:=hs
  exact fin J rv q
 | next =>
  obtain ⟨σ',H',J,q⟩:=hs
  exact fin (v:=V.non) (u:=Value.none) J rfl q
 | brk =>
  obtain ⟨_,_,_,q⟩:=hs
  exact False.elim q
 | cont =>
  obtain ⟨_,_,_,q⟩:=hs
  exact False.elim q
end L2
namespace L2
open PySem PySem.Spec PyProof.Rows
section
variable {X:Cx}{x:Str}{p pos:Pos}{e:Expr}{es:List Expr}{t:TA}{id T:String}{r:List V->Hp->VK->Prop}
def tCB (r:List V->Hp->VK->Prop)(t:TA):TE:=fun σ H Q=>t σ H fun vs H1=>r vs H1 Q
theorem w8 (hc:am5 X (.builtin id) r)(hg:Gl X x)(hm:X.mg x=none)(hv:bootBuiltins x=some (.builtin id))(ha:PA X (e::es) t)(hn:x≠"__name__":=by decide)(hdb:(x == ("__debug__" : Str))=false:=by decide)
  (he:starEach (e::es) X.env=(false,eval e X.env)::starEach es X.env:=by rfl) (hpl:(backTo pos (starEach es X.env)).any (·.1)=false:=by rfl):PE X (.Call (.Name x p) (e::es) [] pos) (tCB r t):=by
 intro pins s σ H Q I h
 refine wpAny_Call_Name_kw (aC4 I hg hm hv ?_ hn hdb)
 exact PyProof.Rows.callWith_builtin1 (thn (ha pos pins s σ H _ I h) fun us s1 ⟨vs,H1,I1,r1,q1⟩=>hc pins s1 σ H1 vs us Q I1 r1 q1) he hpl
theorem N2 (hc:am5 X (.type T) r)(hg:Gl X x)(hm:X.mg x=none)(hv:bootBuiltins x=some (.type T))(ha:PA X (e::es) t)(hn:x≠"__name__":=by decide)(hdb:(x == ("__debug__" : Str))=false:=by decide)
  (he:starEach (e::es) X.env=(false,eval e X.env)::starEach es X.env:=by rfl) (hpl:(backTo pos (starEach es X.env)).any (·.1)=false:=by rfl):PE X (.Call (.Name x p) (e::es) [] pos) (tCB r t):=by
 intro pins s σ H Q I h
 refine wpAny_Call_Name_kw (aC4 I hg hm hv ?_ hn hdb)
 exact PyProof.Rows.callWith_type1 (thn (ha pos pins s σ H _ I h) fun us s1 ⟨vs,H1,I1,r1,q1⟩=>hc pins s1 σ H1 vs us Q I1 r1 q1) he hpl
end
end L2
namespace HT
open PySem PyProof.Rows
section
variable {prog:Program}{w:World}{A:Around}{E:Value->Shared->Prop}{s:Shared}
def sIx (n d:Nat):Option Int->Nat
 | none=>d
 | some v=>if v < 0 then (v+(n:Int)).toNat else min v.toNat n
theorem sIx_none (n d:Nat):sIx n d none=d:=rfl
theorem sIx_nat (n d k:Nat):sIx n d (some (k:Int))=min k n:=by
 show (if (k:Int) < 0 then ((k:Int)+(n:Int)).toNat else min (k:Int).toNat n)=min k n
 rw [if_neg (by omega),Int.toNat_natCast]
end
end HT
namespace L2
open PySem PySem.Spec PyProof.Rows
abbrev TO:=St->Hp->(Option Int->Hp->Prop)->Prop
def PO (X:Cx)(e:Option Expr)(t:TO):Prop :=
 ∀ (pins:List (Addr×Obj)) (s:Shared) (σ:St) (H:Hp) (Q:Option Int->Hp->Prop),Inv X pins σ H s->t σ H Q ->
  wpAny (model X.prog X.w) X.A (evalPart e X.env) (fun u s'=>∃ o H',Inv X pins σ H' s'/\IsPart u o/\Q o H') X.xe s
def bp9:TO:=fun _ H Q=>Q none H
def be2 (t:TE):TO:=fun σ H Q=>t σ H fun x H1=>∃ i,x=.int i/\Q (some i) H1
section
variable {X:Cx}{e:Expr}{te:TE}{lo hi:Option Expr}{tl th:TO}{pos p2:Pos}
theorem X4:PO X none bp9:=by
 intro pins s σ H Q I h
 rw [evalPart_none]
 exact wpAny_pure ⟨none,H,I,.none,h⟩
theorem D5 (h:PE X e te):PO X (some e) (be2 te):=by
 intro pins s σ H Q I hw
 rw [evalPart_some]
 refine thn (h pins s σ H _ I hw) fun u s1 ⟨x,H1,I1,r1,q1⟩=>?_
 obtain ⟨i,rfl,q⟩:=q1
 obtain ⟨t,rfl⟩:=r1
 exact ⟨some i,H1,I1,.int i t,q⟩
def SlR (X:Cx)(r:V->Option Int->Option Int->Hp->VK->Prop):Prop :=
 ∀ (pins:List (Addr×Obj)) (s:Shared) (σ:St) (H:Hp) (x:V) (v vl vu:Value) (lo hi:Option Int) (sl:Addr) (Q:VK),Inv X pins σ H s->t9 x v->s.heap.IsSliceOf sl vl vu .none->IsPart vl lo->IsPart vu hi->r x lo hi H Q ->
  ∃ T id,typeLookup (.type T) "__getitem__"=pure (some (.builtin id))/\s.TypeIs v T/\wpAny (model X.prog X.w) X.A (getItem v (.ref sl)) (EP X pins σ Q) X.xe s
def tSl (r:V->Option Int->Option Int->Hp->VK->Prop)(te:TE)(tl th:TO):TE:=fun σ H Q=>te σ H fun x H1=>tl σ H1 fun l H2=>th σ H2 fun u H3=>r x l u H3 Q
theorem E9 {r:V->Option Int->Option Int->Hp->VK->Prop}(hr:SlR X r)(he:PE X e te)(hl:PO X lo tl)(hu:PO X hi th):PE X (.Subscript e (.Slice lo hi none p2) pos) (tSl r te tl th):=by
 intro pins s σ H Q I h
 refine Subscript_ (thn (he pins s σ H _ I h) fun v s1 ⟨x,H1,I1,r1,q1⟩=>?_)
 refine wpAny_Slice (thn (hl pins s1 σ H1 _ I1 q1) fun vl s2 ⟨l,H2,I2,pl,q2⟩=>thn (hu pins s2 σ H2 _ I2 q2) fun vu s3 ⟨u,H3,I3,pu,q3⟩=>?_)
 rw [evalPart_none]
 refine wpAny_pure ?_
 have I4:Inv X pins σ H3 { s3 with heap:=s3.heap.push { cls:=.type "slice",data:=.fields #[vl,vu,.none] } }:=I3.kept (t':=s3.toks) fun b ob q=>Heap.get?_push_of_some _ q
 obtain ⟨T,id,hT,ht,hg⟩:=hr pins { s3 with heap:=s3.heap.push { cls:=.type "slice",data:=.fields #[vl,vu,.none] } } σ H3 x v vl vu l u s3.heap.objs.size Q I4 r1 (Heap.IsSliceOf.new ..) pl pu q3
 show wpAny (model X.prog X.w) X.A (subscriptTail e (.Slice lo hi none p2) v (.ref s3.heap.objs.size)) (EP X pins σ Q) X.xe { s3 with heap:=s3.heap.push { cls:=.type "slice",data:=.fields #[vl,vu,.none] } }
 exact tail_any (ops:=[.ref s3.heap.objs.size,v]) ht hT hg (by with_unfolding_all rfl)
def Q0 (xs:List V)(lo hi:Option Int):List V:=(xs.drop (HT.sIx xs.length 0 lo)).take (HT.sIx xs.length xs.length hi - HT.sIx xs.length 0 lo)
theorem aJ9 (xs:List V)(lo hi:Option Int):(Q0 xs lo hi).length<=xs.length:=by
 unfold Q0
 rw [List.length_take,List.length_drop]
 omega
end
end L2
namespace L2
open PySem PySem.Spec PyProof.Rows
def ixN (n:Nat)(i:Int):Option Nat:=if 0<=i then (if i < n then some i.toNat else none) else if -(n:Int)<=i then some (i+n).toNat else none
def atI {α:Type}(xs:List α)(i:Int):Option α:=(ixN xs.length i).bind fun j=>xs[j]?
theorem bw4 {n:Nat}{i:Int}{j:Nat}(h:ixN n i=some j):seqIndex? i n=some j/\j < n/\ -(n:Int)<=i/\i < n:=by
 unfold ixN at h
 by_cases h0:0<=i
 ·rw [if_pos h0] at h
  by_cases h1:i < n
  ·rw [if_pos h1] at h
   have e:i.toNat=j:=Option.some.inj h
   exact ⟨by rw [seqIndex_of h0 h1,e],by omega,by omega,h1⟩
  ·rw [if_neg h1] at h;cases h
 ·rw [if_neg h0] at h
  by_cases h1:-(n:Int)<=i
  ·rw [if_pos h1] at h
   have e:(i+n).toNat=j:=Option.some.inj h
   exact ⟨by rw [seqIndex_neg (by omega) h1,e],by omega,h1,by omega⟩
  ·rw [if_neg h1] at h;cases h
theorem aU8 {α:Type}{xs:List α}{i:Int}{v:α}(h:atI xs i=some v):∃ j,seqIndex? i xs.length=some j/\xs[j]?=some v/\j < xs.length/\ -(xs.length:Int)<=i/\i < xs.length:=by
 unfold atI at h
 cases e:ixN xs.length i with
 | none=>rw [e] at h;cases h
 | some j =>
  rw [e] at h
  obtain ⟨h1,h2,h3,h4⟩:=bw4 e
  exact ⟨j,h1,h,h2,h3,h4⟩
theorem ai2 {α:Type}{xs:List α}{j:Nat}{v:α}(h:xs[j]?=some v):atI xs (j:Int)=some v:=by
 have hj:j < xs.length:=(List.getElem?_eq_some_iff.mp h).1
 have e:ixN xs.length (j:Int)=some j:=by
  unfold ixN
  rw [if_pos (by omega),if_pos (by omega)];simp
 unfold atI;rw [e];exact h
def by9 (b:Expr):Prop:=∀ o i,subscripted b false o i=operate [o,i] (getItem o i)
def IxR (X:Cx)(r:R2):Prop :=
 ∀ (value slice:Expr) (pins:List (Addr×Obj)) (s:Shared) (σ:St) (H:Hp) (x y:V) (v u:Value) (Q:VK),Inv X pins σ H s->t9 x v->t9 y u->r x y H Q ->
  subscripted slice false v u=operate [v,u] (getItem v u)->wpAny (model X.prog X.w) X.A (subscriptTail value slice v u) (EP X pins σ Q) X.xe s
def MtR (X:Cx)(id:String)(r:V->List V->Hp->VK->Prop):Prop :=
 ∀ (pins:List (Addr×Obj)) (s:Shared) (σ:St) (H:Hp) (x:V) (xs:List V) (v:Value) (us:List Value) (Q:VK),Inv X pins σ H s->t9 x v->n9 xs us->r x xs H Q ->
  wpAny (model X.prog X.w) X.A (call (.builtin id) (v::us)) (EP X pins σ Q) X.xe s
section
variable {X:Cx}{a b:Expr}{ta tb:TE}{pos:Pos}
theorem m7 {r:R2}(hr:IxR X r)(ha:PE X a ta)(hb:PE X b tb)(hs:by9 b):PE X (.Subscript a b pos) (tOp r ta tb):=by
 intro pins s σ H Q I h
 exact Subscript_ (bL9 ha hb I h fun v u s2 x y H2 I2 rx ry q=>hr a b pins s2 σ H2 x y v u Q I2 rx ry q (hs _ _))
def bU1 (K:W.Frag):R2:=fun x y H Q=>∃ p xs i v,x=.ref p/\y=.int i/\SqL K H p xs/\atI xs i=some v/\Q v H
def bU0 (K:W.Frag):R2:=fun x y H Q=>∃ p xs i v,x=.ref p/\y=.int i/\SqT K H p xs/\atI xs i=some v/\Q v H
theorem A9:IxR X (bU1 X.K):=by
 intro value slice pins s σ H x y v u Q I rx ry h hs
 obtain ⟨p,xs,i,z,rfl,rfl,hq,he,q⟩:=h
 cases rx
 obtain ⟨t,rfl⟩:=ry
 obtain ⟨its,r,pl,hz⟩:=I.list hq
 obtain ⟨j,h1,h2,h3,h4,h5⟩:=aU8 he
 obtain ⟨w,ew,rw'⟩:=r.get h2
 have hl:=r.length
 have hn:=aN6
 have fin:EP X pins σ Q w s:=⟨z,H,I,rw',q⟩
 by_cases h0:0<=i
 ·have hj:i.toNat=j:=by
   rw [seqIndex_of h0 h5] at h1
   exact Option.some.inj h1
  exact item_listR pl.isList h0 (by omega) (by rw [hj];simpa using ew) fin hs
 ·have hj:(i+(its.toArray.size:Int)).toNat=j:=by
   rw [seqIndex_neg (by omega) h4] at h1
   rw [List.size_toArray,<-hl]
   exact Option.some.inj h1
  exact subscriptTail_builtinR (x:=w) pl.isList.typeIs slot_list_getitem.lookup
   (wpAny_getItem_list_neg (Q:=fun r s'=>r=w/\EP X pins σ Q r s') pl.isList (by omega) (by rw [List.size_toArray]<;>omega) (by omega) (by rw [hj];simpa using ew) ⟨rfl,fin⟩) hs
theorem o8:IxR X (bU0 X.K):=by
 intro value slice pins s σ H x y v u Q I rx ry h hs
 obtain ⟨p,xs,i,z,rfl,rfl,hq,he,q⟩:=h
 cases rx
 obtain ⟨t,rfl⟩:=ry
 obtain ⟨its,r,pl,hz⟩:=I.tuple hq
 obtain ⟨j,h1,h2,h3,h4,h5⟩:=aU8 he
 obtain ⟨w,ew,rw'⟩:=r.get h2
 have hl:=r.length
 have hn:=aN6
 have fin:EP X pins σ Q w s:=⟨z,H,I,rw',q⟩
 exact subscriptTail_builtinR (x:=w) pl.typeIs slot_tuple_getitem.lookup
  (getItem_tuple (j:=j) (Q:=fun r s'=>r=w/\EP X pins σ Q r s') pl (by omega) (by omega) (by rw [List.size_toArray,<-hl];exact h1) (by simpa using ew) ⟨rfl,fin⟩) hs
theorem aA3 (lo hi:Option Int)(n:Nat):(sliceBounds lo hi none n).1=((HT.sIx n 0 lo:Nat):Int)/\(sliceBounds lo hi none n).2.1=((HT.sIx n n hi:Nat):Int)/\(sliceBounds lo hi none n).2.2=1:=by
 refine ⟨?_,?_,rfl⟩
 ·cases lo with
  | none=>simp [sliceBounds,HT.sIx]
  | some i =>
   simp only [sliceBounds,HT.sIx,Option.getD_none,show (1:Int) > 0 by decide,if_true]
   by_cases h:i < 0
   ·simp only [h,if_true]<;>omega
   ·simp only [h,if_false]<;>omega
 ·cases hi with
  | none=>simp [sliceBounds,HT.sIx]
  | some i =>
   simp only [sliceBounds,HT.sIx,Option.getD_none,show (1:Int) > 0 by decide,if_true]
   by_cases h:i < 0
   ·simp only [h,if_true]<;>omega
   ·simp only [h,if_false]<;>omega
theorem au1 (its:List Value)(lo hi:Option Int):slicePick its.toArray lo hi none=((its.drop (HT.sIx its.length 0 lo)).take (HT.sIx its.length its.length hi - HT.sIx its.length 0 lo)).toArray:=by
 obtain ⟨h1,h2,h3⟩:=aA3 lo hi its.toArray.size
 unfold slicePick
 rw [h1,h2,h3]
 simp only [sliceRange_one,pick_run,List.size_toArray]<;>rfl
def bP0 (K:W.Frag):V->Option Int->Option Int->Hp->VK->Prop:=fun x lo hi H Q=>∃ a xs,x=.ref a/\SqL K H a xs/\∀ p,H p=none->Q (.ref p) (upd H p (.lst (Q0 xs lo hi)))
theorem L0:SlR X (bP0 X.K):=by
 intro pins s σ H x v vl vu lo hi sl Q I rx hs pl pu h
 obtain ⟨a,xs,rfl,hx,q⟩:=h
 cases rx
 obtain ⟨its,r,ht,hz⟩:=I.list hx
 have hlen:=r.length
 refine ⟨"list",_,slot_list_getitem.lookup,ht.isList.typeIs,?_⟩
 refine wpAny_getItem_list_slice ht.isList hs pl pu .none (by simp) ?_ (by rw [List.size_toArray]<;>omega)
 rw [au1,<-hlen]
 refine ⟨.ref s.heap.objs.size,_,I.laid (t':=s.toks) (o:=.lst (Q0 xs lo hi)) (fun b ob q=>Heap.get?_push_of_some _ q) (Nat.le_refl _) ?_,rfl,q _ (I.hok.fresh (Nat.le_refl _))⟩
 exact ⟨Nat.le_trans (aJ9 xs lo hi) hz,_,0,(r.drop (HT.sIx xs.length 0 lo)).take (HT.sIx xs.length xs.length hi - HT.sIx xs.length 0 lo),Heap.get?_push_size _ rfl⟩
def V0:V->Bool
 | .non=>true
 | .bl _=>true
 | .int _=>true
 | .str _=>true
 | _=>false
def eqV:V->V->Bool
 | .non,.non=>true
 | .bl a,.bl b=>a == b
 | .bl a,.int b=>(if a then 1 else 0) == b
 | .int a,.bl b=>a == (if b then 1 else 0)
 | .int a,.int b=>a == b
 | .str a,.str b=>a == b
 | _,_=>false
theorem bL0 {A:Around}{s:Shared}{y x:V}{u v:Value}(ry:t9 y u)(rx:t9 x v)(fy:V0 y=true)(fx:V0 x=true):SeqAt.EqAt A s u v (eqV y x):=by
 cases y with
 | non =>
  cases ry
  cases x with
  | non=>cases rx;exact SeqAt.EqAt.same _
  | bl b=>cases rx;exact SeqAt.EqAt.none_bool b
  | int b=>obtain ⟨t,rfl⟩:=rx;exact SeqAt.EqAt.none_int b t
  | str b=>obtain ⟨t,rfl⟩:=rx;exact SeqAt.EqAt.none_str b t
  | _=>exact absurd (show false=true from fx) Bool.false_ne_true
 | bl a =>
  cases ry
  cases x with
  | non=>cases rx;exact SeqAt.EqAt.bool_none a
  | bl b=>cases rx;exact SeqAt.EqAt.bool_bool a b
  | int b=>obtain ⟨t,rfl⟩:=rx;exact SeqAt.EqAt.bool_int a b t
  | str b=>obtain ⟨t,rfl⟩:=rx;exact SeqAt.EqAt.bool_str a b t
  | _=>exact absurd (show false=true from fx) Bool.false_ne_true
 | int a =>
  obtain ⟨t',rfl⟩:=ry
  cases x with
  | non=>cases rx;exact SeqAt.EqAt.int_none a t'
  | bl b=>cases rx;exact SeqAt.EqAt.int_bool a t' b
  | int b=>obtain ⟨t,rfl⟩:=rx;exact SeqAt.EqAt.int_int a t' b t
  | str b=>obtain ⟨t,rfl⟩:=rx;exact SeqAt.EqAt.int_str a t' b t
  | _=>exact absurd (show false=true from fx) Bool.false_ne_true
 | str a =>
  obtain ⟨t',rfl⟩:=ry
  cases x with
  | non=>cases rx;exact SeqAt.EqAt.str_none a t'
  | bl b=>cases rx;exact SeqAt.EqAt.str_bool a t' b
  | int b=>obtain ⟨t,rfl⟩:=rx;exact SeqAt.EqAt.str_int a t' b t
  | str b=>obtain ⟨t,rfl⟩:=rx;exact SeqAt.EqAt.str_str a t' b t
  | _=>exact absurd (show false=true from fx) Bool.false_ne_true
 | _=>exact absurd (show false=true from fy) Bool.false_ne_true
def eqU (x:V)(u:Value):Bool:=match u with
 | .none=>eqV .non x
 | .bool b=>eqV (.bl b) x
 | .int i _=>eqV (.int i) x
 | .str z _=>eqV (.str z) x
 | _=>false
theorem aD2 {x y:V}{u:Value}(r:t9 y u)(f:V0 y=true):eqU x u=eqV y x:=by
 cases y with
 | non=>cases r;rfl
 | bl b=>cases r;rfl
 | int i=>obtain ⟨t,rfl⟩:=r;rfl
 | str z=>obtain ⟨t,rfl⟩:=r;rfl
 | _=>exact absurd (show false=true from f) Bool.false_ne_true
theorem aD7 {x:V}:∀ {xs:List V}{us:List Value},n9 xs us->xs.all V0=true->us.any (eqU x)=xs.any fun y=>eqV y x
 | _,_,.nil,_=>rfl
 | y::xs,u::us,.cons r t,f=>by
  rw [List.all_cons,Bool.and_eq_true] at f
  rw [List.any_cons,List.any_cons,aD2 r f.1,aD7 t f.2]
theorem ag5 {A:Around}{s:Shared}{x:V}{v:Value}(rx:t9 x v)(fx:V0 x=true):∀ {xs:List V}{us:List Value},n9 xs us->xs.all V0=true->∀ u∈us,SeqAt.EqAt A s u v (eqU x u)
 | _,_,.nil,_=>fun u hu=>by cases hu
 | y::xs,u::us,.cons r t,f=>fun u' hu=>by
  rw [List.all_cons,Bool.and_eq_true] at f
  rcases List.mem_cons.mp hu with rfl | hu
  ·rw [aD2 r f.1];exact bL0 r rx f.1 fx
  ·exact ag5 rx fx t f.2 u' hu
def inV (x:V)(xs:List V):Bool:=xs.any fun y=>eqV y x
def rIn (K:W.Frag)(neg:Bool):R2:=fun x y H Q=>∃ p xs,y=.ref p/\(SqL K H p xs\/SqT K H p xs)/\V0 x=true/\xs.all V0=true/\Q (.bl (if neg then !inV x xs else inV x xs)) H
theorem ag3:OpR X (compareOp .NotIn) (rIn X.K true):=by
 intro pins s σ H x y v u Q I rx ry h
 obtain ⟨p,xs,rfl,hq,fx,fs,q⟩:=h
 cases ry
 rcases hq with hq | hq
 ·obtain ⟨its,r,pl,hz⟩:=I.list hq
  refine SeqAt.notIn_listAt (eqU x) pl.isList (fun w hw=>ag5 rx fx r fs w (by simpa using hw)) ⟨.bl _,H,I,rfl,?_⟩
  rw [show its.toArray.any (eqU x)=its.any (eqU x) by simp,aD7 r fs]
  exact q
 ·obtain ⟨its,r,pl,hz⟩:=I.tuple hq
  refine SeqAt.notIn_tupleAt (eqU x) pl (fun w hw=>ag5 rx fx r fs w (by simpa using hw)) ⟨.bl _,H,I,rfl,?_⟩
  rw [show its.toArray.any (eqU x)=its.any (eqU x) by simp,aD7 r fs]
  exact q
theorem w9:am5 X (.builtin "len") (fun xs H Q=>∃ p ys,xs=[.ref p]/\(SqL X.K H p ys\/SqT X.K H p ys)/\Q (.int ys.length) H):=by
 intro pins s σ H xs us Q I r h
 obtain ⟨p,ys,rfl,hq,q⟩:=h
 obtain ⟨u,rfl,rx⟩:=av2 r
 cases rx
 have hn:=aN6
 rcases hq with hq | hq
 ·obtain ⟨its,r',pl,hz⟩:=I.list hq
  have hlen:=r'.length
  exact Calls.call_len_list pl.isList (by simp only [List.size_toArray]<;>omega) ⟨.int ys.length,H,I.tok _,⟨s.toks+1,by rw [List.size_toArray,hlen]⟩,q⟩
 ·obtain ⟨its,r',pl,hz⟩:=I.tuple hq
  have hlen:=r'.length
  exact len_tuple pl (by simp only [List.size_toArray]<;>omega) ⟨.int ys.length,H,I.tok _,⟨s.toks+1,by rw [List.size_toArray,hlen]⟩,q⟩
theorem F2:am5 X (.type "tuple") (fun xs H Q=>∃ p ys,xs=[.ref p]/\((SqL X.K H p ys/\∀ l,H l=none->Q (.ref l) (upd H l (.tup ys)))\/(SqT X.K H p ys/\Q (.ref p) H))):=by
 intro pins s σ H xs us Q I r h
 obtain ⟨p,ys,rfl,h⟩:=h
 obtain ⟨u,rfl,rx⟩:=av2 r
 cases rx
 rcases h with ⟨hq,q⟩ | ⟨hq,q⟩
 ·obtain ⟨its,r',pl,hz⟩:=I.list hq
  have hlen:=r'.length
  refine call_tuple_list pl.isList (fun h' kp=>?_) (by simp only [List.size_toArray]<;>omega)
  have I1:Inv X pins σ H { s with heap:=h' }:=I.kept (t':=s.toks) kp
  have I2:Inv X pins σ (upd H h'.objs.size (.tup ys)) { s with heap:=h'.push { cls:=.type "tuple",data:=.seq its.toArray } } :=
   I1.laid (t':=s.toks) (fun b o e=>Heap.get?_push_of_some _ e) (Nat.le_refl _) (show r9 X.prog X.w _ _ _ (.tup ys) from ⟨hz,its,r',IsTup.new _ _⟩)
  exact ⟨.ref h'.objs.size,_,I2,rfl,q _ (I1.hok.fresh (Nat.le_refl _))⟩
 ·obtain ⟨its,r',pl,hz⟩:=I.tuple hq
  exact call_tuple_same pl ⟨.ref p,H,I,rfl,q⟩
def tyV (K:W.Frag)(T:String)(x:V)(H:Hp):Prop:=match x with
 | .str _=>T="str"
 | .int _=>T="int"
 | .ref p=>(T="list"/\∃ xs,SqL K H p xs)\/(T="tuple"/\∃ o,K.lookup p=some o/\o.cls=.type "tuple"/\o.dict=none) \/
   (T="dict"/\((∃ kvs,H p=some (.dK kvs))\/∃ kvs,H p=some (.dT kvs)))\/(T="set"/\∃ S n,H p=some (.set S n))
 | _=>False
theorem bc9 {pins:List (Addr×Obj)}{σ:St}{H:Hp}{s:Shared}{T:String}{x:V}{v:Value}(I:Inv X pins σ H s)(r:t9 x v)(ty:tyV X.K T x H) :
  s.TypeIs v T/\∀ a,v=.ref a->∃ ob,s.heap.get? a=some ob/\ob.dict=none:=by
 cases x with
 | str z =>
  obtain ⟨t,rfl⟩:=r
  cases (show T="str" from ty)
  exact ⟨typeIs_str s z t,fun _ e=>nomatch e⟩
 | int i =>
  obtain ⟨t,rfl⟩:=r
  cases (show T="int" from ty)
  exact ⟨typeIs_int s i t,fun _ e=>nomatch e⟩
 | ref p =>
  cases r
  rcases ty with ⟨rfl,xs,hq⟩ | ⟨rfl,o,hk,hc,hd⟩ | ⟨rfl,hk⟩ | ⟨rfl,S,n,hk⟩
  ·obtain ⟨its,_,pl,_⟩:=I.list hq
   refine ⟨pl.isList.typeIs,fun a e=>?_⟩
   cases e
   obtain ⟨o,n,e,c,hd,_⟩:=pl
   exact ⟨o,e,hd⟩
  ·refine ⟨⟨o,I.kIn p o hk,hc⟩,fun a e=>?_⟩
   cases e
   exact ⟨o,I.kIn _ o hk,hd⟩
  ·have z:∃ o,s.heap.get? p=some o/\o.ExactDict:=by
    rcases hk with ⟨kvs,hk⟩ | ⟨kvs,hk⟩
    ·obtain ⟨_,_,_,_,o,_,_,e,ex,_⟩:=I.hok p _ hk
     exact ⟨o,e,ex⟩
    ·obtain ⟨_,_,_,_,o,_,_,e,ex,_⟩:=I.hok p _ hk
     exact ⟨o,e,ex⟩
   obtain ⟨o,e,ex⟩:=z
   refine ⟨⟨o,e,ex.1⟩,fun a e2=>?_⟩
   cases e2
   exact ⟨o,e,ex.2.1⟩
  ·obtain ⟨o,_,_,_,e,ex,_⟩:=I.hok p _ hk
   refine ⟨⟨o,e,ex.1⟩,fun a e2=>?_⟩
   cases e2
   exact ⟨o,e,ex.2.1⟩
 | _=>exact False.elim ty
def bT5 (K:W.Frag)(T:String)(r:V->List V->Hp->VK->Prop)(to:TE):TE:=fun σ H Q=>to σ H fun x H1=>tyV K T x H1/\r x [] H1 Q
def tBM (K:W.Frag)(T:String)(r:V->List V->Hp->VK->Prop)(to:TE)(t:TA):TE:=fun σ H Q=>to σ H fun x H1=>tyV K T x H1/\t σ H1 fun xs H2=>r x xs H2 Q
variable {o e:Expr}{es:List Expr}{to:TE}{t:TA}{name:Str}{apos cpos:Pos}{T id:String}{r:V->List V->Hp->VK->Prop}
theorem bi5 (pa:PlainAttrs T)(slot:Slot T name id)(hty:typeOf (.builtin id)=pure (.type "method_descriptor"))(hm:MtR X id r)(ho:PE X o to)
  (hbase:attributeBase o name X.env (eval o X.env)=eval o X.env:=by rfl) (hline:(apos.endLine == cpos.line)=true:=by rfl):PE X (.Call (.Attribute o name apos) [] [] cpos) (bT5 X.K T r to):=by
 intro pins s σ H Q I h
 refine wpAny_Call_method0_late hbase hline (thn (ho pins s σ H _ I h) fun v s1 ⟨x,H1,I1,r1,ty,q1⟩=>?_)
 obtain ⟨h1,h2⟩:=bc9 I1 r1 ty
 exact ⟨T,id,pa,slot,hty,h1,h2,Calls.callWith_builtin rfl (PySem.evalArgs_none (hm pins s1 σ H1 x [] v [] Q I1 r1 .nil q1))⟩
theorem aw7 (pa:PlainAttrs T)(slot:Slot T name id)(hty:typeOf (.builtin id)=pure (.type "method_descriptor"))(hm:MtR X id r)(ho:PE X o to)(ha:PA X (e::es) t)
  (hbase:attributeBase o name X.env (eval o X.env)=eval o X.env:=by rfl)
  (hfew:((backTo cpos (starEach (e::es) X.env)).all (fun x=>!x.1) && (backToKw cpos (keywordEach [] X.env)).all (fun x=>x.1.isSome)
   && decide ((e::es).length+([]:List Keyword).length+(if ([]:List Keyword).isEmpty then 0 else 1) < 30))=true:=by rfl)
  (hline:(apos.endLine == cpos.line)=true:=by rfl) (hs:starEach (e::es) X.env=(false,eval e X.env)::starEach es X.env:=by rfl) (hplain:(backTo cpos (starEach es X.env)).any (·.1)=false:=by rfl) :
  PE X (.Call (.Attribute o name apos) (e::es) [] cpos) (tBM X.K T r to t):=by
 intro pins s σ H Q I h
 refine wpAny_Call_method_late hbase hfew hline rfl (thn (ho pins s σ H _ I h) fun v s1 ⟨x,H1,I1,r1,ty,q1⟩=>?_)
 obtain ⟨h1,h2⟩:=bc9 I1 r1 ty
 refine ⟨T,id,pa,slot,hty,h1,h2,?_⟩
 have hA:=ha cpos pins s1 σ H1 _ I1 q1
 rw [hs] at hA ⊢
 refine Calls.callWith_builtin (by show (false || (backTo cpos (starEach es X.env)).any (·.1))=false;rw [hplain]<;>rfl) (Calls.evalArgs_plain ?_)
 exact thn hA fun us s2 ⟨vs,H2,I2,r2,q2⟩=>hm pins s2 σ H2 x vs v us Q I2 r1 r2 q2
end
end L2
namespace L2
open PySem PySem.Spec PyProof.Rows
def MtM (X:Cx)(id:String)(r:V->List V->Hp->VK->Prop):Prop :=
 ∀ (pins:List (Addr×Obj)) (s:Shared) (σ:St) (H:Hp) (x:V) (xs:List V) (v:Value) (us:List Value) (Q:VK),Inv X pins σ H s->t9 x v->n9 xs us->r x xs H Q ->
  wpAny (model X.prog X.w) X.A (call (.builtin id) (v::us)) (EP X pins σ Q) X.xe s
theorem n9.one:∀ {x:V}{us:List Value},n9 [x] us->∃ u,us=[u]/\t9 x u
 | _,_,.cons r .nil=>⟨_,rfl,r⟩
theorem n9.rep {xs:List V}{us:List Value}(h:n9 xs us):∀ k:Nat,n9 (List.replicate k xs).flatten (List.replicate k us).flatten
 | 0=>.nil
 | k+1=>by
  rw [List.replicate_succ,List.replicate_succ,List.flatten_cons,List.flatten_cons]
  exact n9.append h (n9.rep h k)
theorem ay2 (its:List Value):∀ (k:Nat) (acc:List Value),
  List.foldl (fun x1 x2=>x1++x2) acc.toArray (List.replicate k its.toArray)=(acc++(List.replicate k its).flatten).toArray
 | 0,acc=>by simp
 | k+1,acc=>by
  have e:acc.toArray++its.toArray=(acc++its).toArray:=by simp
  have e2:(acc++its)++(List.replicate k its).flatten=acc++(List.replicate (k+1) its).flatten:=by
   rw [List.replicate_succ,List.flatten_cons,List.append_assoc]
  rw [<-e2,<-ay2 its k (acc++its),<-e,List.replicate_succ,List.foldl_cons]
section
variable {X:Cx}{pins:List (Addr×Obj)}{σ:St}{H:Hp}{s:Shared}{l b:Addr}{xs ys zs:List V}
theorem Inv.lset {its its':List Value}{n:Nat}{f:Array Value->Array Value}{t':Nat}(I:Inv X pins σ H s)(hH:H l=some (.lst xs))
  (e:s.heap.get? l=some { cls:=.type "list",data:=.seq its.toArray n }) (hf:f its.toArray=its'.toArray) (hv:n9 ys its') (hz:ys.length<=sizeLine) :
  Inv X pins σ (upd H l (.lst ys)) { s with heap:=s.heap.update l (Obj.mapSeq f),toks:=t' }:=by
 have q:=PySem.IsL.update e f
 rw [hf] at q
 refine I.write (x:=l) (e:=l) (by rw [hH];exact trivial) (.inl rfl) (fun b' u hb hu=>(Heap.get?_update_other s.heap (Obj.mapSeq f) (Ne.symm hb)).trans hu) ⟨_,q⟩ ?_
 exact ⟨hz,its',_,hv,q⟩
theorem Inv.lnew {its:List Value}{t':Nat}(I:Inv X pins σ H s)(hv:n9 ys its)(hz:ys.length<=sizeLine) :
  Inv X pins σ (upd H s.heap.objs.size (.lst ys)) { s with heap:=s.heap.push { cls:=.type "list",data:=.seq its.toArray },toks:=t' } :=
 I.laid (fun _ _ q=>Heap.get?_push_of_some _ q) (Nat.le_refl _) ⟨hz,its,0,hv,Heap.get?_push_size _ rfl⟩
theorem Inv.fresh (I:Inv X pins σ H s):H s.heap.objs.size=none:=I.hok.fresh (Nat.le_refl _)
theorem Inv.lstM (I:Inv X pins σ H s)(hH:H l=some (.lst xs)):xs.length<=sizeLine/\∃ (its:List Value) (n:Nat),n9 xs its/\xs.length=its.length/\s.heap.get? l=some { cls:=.type "list",data:=.seq its.toArray n }:=by
 obtain ⟨z,its,n,r,e⟩:=I.hok l _ hH
 exact ⟨z,its,n,r,r.length,e⟩
theorem aG6 {n:Nat}(h:n<=sizeLine):Builtin.List.listTooLong n=false:=by
 unfold Builtin.List.listTooLong
 exact decide_eq_false (by omega)
end
section
variable {X:Cx}
def aR8:V->List V->Hp->VK->Prop:=fun x vs H Q=>∃ l xs y,x=.ref l/\vs=[y]/\H l=some (.lst xs)/\xs.length < sizeLine/\Q .non (upd H l (.lst (xs++[y])))
theorem U5:MtM X "list.append" aR8:=by
 intro pins s σ H x vs v us Q I rx rv h
 obtain ⟨l,xs,y,rfl,rfl,hH,hz,q⟩:=h
 cases rx
 obtain ⟨u,rfl,ru⟩:=rv.one
 obtain ⟨z,its,n,r,hl,e⟩:=I.lstM hH
 refine call_meets F.slot_list_append ⟨_,e,rfl⟩ F.entry_list_append (F.args_list_append_2 _ _) (PySem.list_append l its.toArray n u (by rw [List.size_toArray];omega)) ⟨e,?_⟩
 refine ⟨.non,_,I.lset (its':=its++[u]) hH e (by simp) (r.append (.cons ru .nil)) ?_,rfl,q⟩
 rw [List.length_append,List.length_singleton]
 omega
def br9:V->List V->Hp->VK->Prop:=fun x vs H Q=>∃ l b xs zs,x=.ref l/\vs=[.ref b]/\H l=some (.lst xs)/\H b=some (.lst zs)/\xs.length+zs.length<=sizeLine/\Q .non (upd H l (.lst (xs++zs)))
theorem bM4:MtM X "list.extend" br9:=by
 intro pins s σ H x vs v us Q I rx rv h
 obtain ⟨l,b,xs,zs,rfl,rfl,hH,hB,hz,q⟩:=h
 cases rx
 obtain ⟨u,rfl,ru⟩:=rv.one
 cases ru
 obtain ⟨z,its,n,r,hl,e⟩:=I.lstM hH
 obtain ⟨z2,its2,n2,r2,hl2,e2⟩:=I.lstM hB
 have hsz:its.toArray.size+its2.toArray.size<=sizeLine:=by rw [List.size_toArray,List.size_toArray];omega
 have hlong:¬ (!its.toArray.isEmpty && Builtin.List.listTooLong (its.toArray.size+its2.toArray.size))=true:=by
  rw [aG6 hsz,Bool.and_false]
  exact Bool.false_ne_true
 refine call_meets F.slot_list_extend ⟨_,e,rfl⟩ F.entry_list_extend (F.args_list_extend_2 _ _)
  (AutoSeq1.list_extend_list_list_0 l its.toArray n b its2.toArray n2 hlong (by rw [List.size_toArray];omega) (by omega)) ⟨e,e2,?_⟩
 refine ⟨.non,_,I.lset (its':=its++its2) hH e (by simp) (r.append r2) ?_,rfl,q⟩
 rw [List.length_append]
 omega
def bU4:R2:=fun x y H Q=>∃ l b xs zs,x=.ref l/\y=.ref b/\H l=some (.lst xs)/\H b=some (.lst zs)/\xs.length+zs.length<=sizeLine/\∀ p,H p=none->Q (.ref p) (upd H p (.lst (xs++zs)))
theorem aM9:OpR X (binaryOp .Add) bU4:=by
 intro pins s σ H x y v u Q I rx ry h
 obtain ⟨l,b,xs,zs,rfl,rfl,hH,hB,hz,q⟩:=h
 cases rx
 cases ry
 obtain ⟨z,its,n,r,hl,e⟩:=I.lstM hH
 obtain ⟨z2,its2,n2,r2,hl2,e2⟩:=I.lstM hB
 refine PySem.P.add_list e e2 ?_ (by rw [List.size_toArray,List.size_toArray];omega)
 have ea:its.toArray++its2.toArray=(its++its2).toArray:=by simp
 rw [ea]
 exact ⟨.ref _,_,I.lnew (t':=s.toks) (r.append r2) (by rw [List.length_append];omega),rfl,q _ I.fresh⟩
def bT9:R2:=fun x y H Q=>∃ l k xs,x=.ref l/\y=.int k/\H l=some (.lst xs)/\ -(2 ^ 63)<=k/\k < 2 ^ 63/\xs.length*k.toNat<=sizeLine /\
 ∀ p,H p=none->Q (.ref p) (upd H p (.lst (List.replicate k.toNat xs).flatten))
theorem bv8 {α:Type}(xs:List α)(k:Nat):(List.replicate k xs).flatten.length=k*xs.length:=by
 induction k with
 | zero=>simp
 | succ k ih=>rw [List.replicate_succ,List.flatten_cons,List.length_append,ih,Nat.succ_mul,Nat.add_comm]
theorem bi8:OpR X (binaryOp .Mult) bT9:=by
 intro pins s σ H x y v u Q I rx ry h
 obtain ⟨l,k,xs,rfl,rfl,hH,h1,h2,hz,q⟩:=h
 cases rx
 obtain ⟨t,rfl⟩:=ry
 obtain ⟨z,its,n,r,hl,e⟩:=I.lstM hH
 have hlen:its.toArray.size*k.toNat<=sizeLine:=by rw [List.size_toArray,<-hl];exact hz
 have hcap:¬ its.toArray.size*k.toNat > (2 ^ 63 - 1) / 8:=by
  have:(sizeLine:Nat)<=(2 ^ 63 - 1) / 8:=by decide
  omega
 have hfit:¬ (!Builtin.List.listFitsIndex k)=true:=by
  rw [fitsIndex_both h1 h2]
  exact Bool.false_ne_true
 have hlong:¬ Builtin.List.listTooLong (its.toArray.size*k.toNat)=true:=by
  rw [aG6 hlen]
  exact Bool.false_ne_true
 have hnew:List.foldl (fun x1 x2=>x1++x2) #[] (List.replicate (if its.toArray.isEmpty=true then 0 else k.toNat) its.toArray)=(List.replicate k.toNat its).flatten.toArray:=by
  have f0:∀ m:Nat,List.foldl (fun x1 x2=>x1++x2) #[] (List.replicate m its.toArray)=(List.replicate m its).flatten.toArray:=fun m=>by
   have:=ay2 its m []
   rw [List.nil_append] at this
   exact this
  rw [f0]
  cases its with
  | nil=>simp
  | cons a r'=>rw [if_neg (by simp)]
 refine wpAny_binaryOp_repeat_ref (T:="list") (U:="int") (by decide) ⟨_,e,rfl⟩ (fun s'=>typeIs_int s' k t) noFill_list_mul F.fills_int_mul F.slot_int_rmul repeat_list F.slot_int_index.lookup
  (call_meets F.slot_int_rmul (typeIs_int s k t) F.entry_int_rmul (F.args_int_rmul_2 _ _) (int___rmul___int_list k t l its.toArray n)
   ⟨e,rfl,⟨_,e,rfl⟩,call_meets F.slot_list_mul ⟨_,e,rfl⟩ F.entry_list_mul (F.args_list_mul_2 _ _) (AutoListH.list___mul___list_int_3 l its.toArray n k t hfit hcap hlong) ⟨e,?_⟩⟩)
 rw [hnew]
 exact ⟨.ref _,_,I.lnew (t':=s.toks) (r.rep k.toNat) (by rw [bv8,Nat.mul_comm];exact hz),rfl,q _ I.fresh⟩
end
end L2
namespace L2
open PySem PySem.Spec PyProof.Rows
section
variable {X:Cx}
def T0 (K:W.Frag):V->List V->Hp->VK->Prop:=fun x xs H Q=>∃ (a:Addr) (ys:List V) (y:V) (j:Nat) (z:V),x=V.ref a/\xs=[y]/\SqL K H a ys/\V0 y=true/\ys.all V0=true/\ys[j]?=some z/\eqV z y=true /\
 (∀ (m:Nat) (z':V),m < j->ys[m]?=some z'->eqV z' y=false)/\Q (.int (j:Nat)) H
theorem aT7 {ys:List V}(f:ys.all V0=true){j:Nat}{z:V}(h:ys[j]?=some z):V0 z=true:=List.all_eq_true.mp f z (List.mem_of_getElem? h)
theorem bk5:MtR X "list.index" (T0 X.K):=by
 intro pins s σ H x xs v us Q I rx rxs h
 obtain ⟨a,ys,y,j,z,rfl,rfl,hs,fy,fys,hz,hzj,hno,q⟩:=h
 cases rx
 cases rxs with
 | cons ry rt =>
  rename_i uy ut
  cases rt
  obtain ⟨its,rv,⟨⟨cls,dd,data,sl⟩,n,ho,hc,hdn,hd⟩,hlen⟩:=I.list hs
  simp only at hc hd
  subst hc hd
  obtain ⟨u,hu,ru⟩:=rv.get hz
  obtain ⟨hjl,hje⟩:=List.getElem?_eq_some_iff.mp hu
  have hvl:=rv.length
  have hj:j < its.toArray.size:=by simpa using hjl
  have hsl:=sizeLine_eq
  refine call_meets PySem.F.slot_list_index ⟨_,ho,rfl⟩ PySem.F.entry_list_index (PySem.F.args_list_index_2 _ _)
   (SeqAt.list_indexAt a its.toArray n dd sl uy (eqU y) j hj (by omega) ?_ ?_) ⟨ho,fun u' hu'=>ag5 ry fy rv fys u' (by simpa using hu'),?_⟩
  ·have e1:its.toArray[j]=u:=by simpa using hje
   rw [e1,aD2 ru (aT7 fys hz)]
   exact hzj
  ·intro m hm hmj
   have hml:m < its.length:=by simpa using hm
   have hmy:m < ys.length:=by omega
   have hy':ys[m]?=some ys[m]:=List.getElem?_eq_getElem hmy
   obtain ⟨u2,hu2,ru2⟩:=rv.get hy'
   obtain ⟨_,hme⟩:=List.getElem?_eq_some_iff.mp hu2
   have e1:its.toArray[m]=u2:=by simpa using hme
   rw [e1,aD2 ru2 (aT7 fys hy')]
   exact hno m _ hmj hy'
  ·exact ⟨.int (j:Nat),H,I.tok _,⟨_,rfl⟩,q⟩
end
mutual
inductive Dp (K:W.Frag)(H:Hp):V->PyData->Prop
 | non:Dp K H .non .none
 | bl (b:Bool):Dp K H (.bl b) (.bool b)
 | int (i:Int):Dp K H (.int i) (.int i)
 | str (x:Str):Dp K H (.str x) (.str x)
 | lst {a:Addr}{xs:List V}{ds:List PyData}:SqL K H a xs->DpAll K H xs ds->Dp K H (.ref a) (.list ds)
 | tup {a:Addr}{xs:List V}{ds:List PyData}:SqT K H a xs->DpAll K H xs ds->Dp K H (.ref a) (.tuple ds)
inductive DpAll (K:W.Frag)(H:Hp):List V->List PyData->Prop
 | nil:DpAll K H [] []
 | cons {v:V}{vs:List V}{d:PyData}{ds:List PyData}:Dp K H v d->DpAll K H vs ds->DpAll K H (v::vs) (d::ds)
end
section
variable {X:Cx}{pins:List (Addr×Obj)}{σ:St}{H:Hp}{s:Shared}
mutual
theorem Dp.reads (I:Inv X pins σ H s):∀ (d:PyData) (v:V) (u:Value),Dp X.K H v d->t9 v u->∃ as,Reads s.heap u d as
 | .none,_,_,h,r=>by
  cases h
  cases r
  exact ⟨_,Reads.none⟩
 | .bool b,_,_,h,r=>by
  cases h
  cases r
  exact ⟨_,Reads.bool b⟩
 | .int i,_,_,h,r=>by
  cases h
  obtain ⟨t,rfl⟩:=r
  exact ⟨_,Reads.int i t⟩
 | .str x,_,_,h,r=>by
  cases h
  obtain ⟨t,rfl⟩:=r
  exact ⟨_,Reads.str x t⟩
 | .list ds,_,_,h,r=>by
  cases h with
  | lst hs ha =>
   cases r
   obtain ⟨its,rv,⟨o,n,ho,hc,_,hd⟩,_⟩:=I.list hs
   obtain ⟨as,hr⟩:=Dp.readsAll I ds _ its ha rv
   exact ⟨_,Reads.list ho hc hd hr⟩
 | .tuple ds,_,_,h,r=>by
  cases h with
  | tup hs ha =>
   cases r
   obtain ⟨its,rv,⟨o,ho,hc,n,hd⟩,_⟩:=I.tuple hs
   obtain ⟨as,hr⟩:=Dp.readsAll I ds _ its ha rv
   exact ⟨_,Reads.tuple ho hc hd hr⟩
 | .dict _,_,_,h,_=>by cases h
theorem Dp.readsAll (I:Inv X pins σ H s):∀ (ds:List PyData) (vs:List V) (us:List Value),DpAll X.K H vs ds->n9 vs us->∃ as,ReadsAll s.heap us ds as
 | [],_,_,h,r=>by
  cases h
  cases r
  exact ⟨_,ReadsAll.nil⟩
 | d::ds,_,_,h,r=>by
  cases h with
  | cons h1 h2 =>
   cases r with
   | cons r1 r2 =>
    obtain ⟨as,q1⟩:=Dp.reads I d _ _ h1 r1
    obtain ⟨bs,q2⟩:=Dp.readsAll I ds _ _ h2 r2
    exact ⟨_,ReadsAll.cons q1 q2⟩
end
end
section
variable {X:Cx}
def bU3 (K:W.Frag):R2:=fun x y H Q=>∃ d e,Dp K H x d/\Dp K H y e/\SeqAt.shaped d=true/\SeqAt.shaped e=true/\Q (.bl (PyData.eqv d e)) H
theorem bF9 (hu:X.A.units+64 < cLine):OpR X (compareOp .Eq) (bU3 X.K):=by
 intro pins s σ H x y v u Q I rx ry h
 obtain ⟨d,e,hd,he,sd,se,q⟩:=h
 obtain ⟨as,r1⟩:=Dp.reads I d x v hd rx
 obtain ⟨bs,r2⟩:=Dp.reads I e y u he ry
 exact SeqAt.compareEq_shaped r1 r2 sd se hu ⟨.bl _,H,I,rfl,q⟩
end
end L2
namespace L2
open PySem PySem.Spec PyProof.Rows
abbrev bp0 (h:Heap)(c:Addr)(v:Option Value):Prop:=h.IsCell c v
def bT8 (scope sc:Scope):Scope :=
 { scope with names:=scope.names.map fun (n,k)=>if (k == .free && sc.kind == .function && sc.names.lookup n == some .cell) then (n,.cell) else (n,k) }
def t8 (cells:List (Str×Addr)):List (Str×NameKind)->List (Str×Addr)->List (Str×Addr)
 | [],acc=>acc
 | (n,k)::r,acc=>if k == .free then t8 cells r ((n,(cells.lookup n).getD 0)::acc) else t8 cells r acc
theorem ah8 (env:Env)(f:Str×NameKind->List (Str×Addr)->Sem (ForInStep (List (Str×Addr))))
  (hf:∀ n k c,f (n,k) c=if k == .free then (do let a ← cellOf env n;pure (.yield ((n,a)::c))) else pure (.yield c)) :
  ∀ (names:List (Str×NameKind)) (acc:List (Str×Addr)),(∀ y∈names,y.2=.free->∃ c,env.cells.lookup y.1=some c)->forIn names acc f=pure (t8 env.cells names acc)
 | [],acc,_=>by rw [List.forIn_nil];rfl
 | (n,k)::r,acc,h=>by
  rw [List.forIn_cons,hf]
  have ih:=fun acc=>ah8 env f hf r acc fun y hy=>h y (List.mem_cons_of_mem _ hy)
  unfold t8
  by_cases hk:(k == NameKind.free)=true
  ·rw [if_pos hk,if_pos hk]
   obtain ⟨c,hc⟩:=h (n,k) List.mem_cons_self (by simpa using hk)
   have e:cellOf env n=pure c:=by unfold cellOf;rw [hc]
   rw [e]
   have e2:(env.cells.lookup n).getD 0=c:=by rw [hc];rfl
   rw [e2]
   exact ih _
  ·rw [if_neg hk,if_neg hk]
   exact ih _
theorem at4 {scope:Scope}{env:Env}(h:∀ y∈scope.names,y.2=.free->∃ c,env.cells.lookup y.1=some c):closureFor scope env=pure (t8 env.cells scope.names []):=by
 simp only [closureFor]
 rw [ah8 env _ (fun n k c=>rfl) scope.names [] h]
 rfl
theorem ae5 {α:Type}:∀ {l:List (Str×α)}{n:Str}{c:α},(n,c)∈l->∃ c',l.lookup n=some c'
 | (k,v)::r,n,c,h=>by
  rw [List.lookup_cons]
  cases hb:n == k with
  | true=>exact ⟨_,rfl⟩
  | false =>
   rcases List.mem_cons.mp h with e | h
   ·cases e;simp at hb
   ·exact ae5 h
theorem R0 {cells:List (Str×Addr)}:∀ {names:List (Str×NameKind)}{acc:List (Str×Addr)}{n:Str}{c:Addr},(n,c)∈t8 cells names acc->(n,c)∈acc\/((n,.free)∈names/\c=(cells.lookup n).getD 0)
 | [],_,_,_,h=>.inl h
 | (m,k)::r,acc,n,c,h=>by
  unfold t8 at h
  split at h
  ·rename_i hk
   have hk:k=.free:=by simpa using hk
   rcases R0 h with h | ⟨h1,h2⟩
   ·rcases List.mem_cons.mp h with e | h
    ·cases e;exact .inr ⟨hk▸List.mem_cons_self,rfl⟩
    ·exact .inl h
   ·exact .inr ⟨List.mem_cons_of_mem _ h1,h2⟩
  ·rcases R0 h with h | ⟨h1,h2⟩
   ·exact .inl h
   ·exact .inr ⟨List.mem_cons_of_mem _ h1,h2⟩
theorem ab4 {cells:List (Str×Addr)}:∀ {names:List (Str×NameKind)}{acc:List (Str×Addr)}{p:Str×Addr},p∈acc->p∈t8 cells names acc
 | [],_,_,h=>h
 | (m,k)::r,acc,p,h=>by
  unfold t8
  split
  ·exact ab4 (List.mem_cons_of_mem _ h)
  ·exact ab4 h
theorem ab3 {cells:List (Str×Addr)}:∀ {names:List (Str×NameKind)}{acc:List (Str×Addr)}{n:Str},(n,.free)∈names->(n,(cells.lookup n).getD 0)∈t8 cells names acc
 | (m,k)::r,acc,n,h=>by
  unfold t8
  rcases List.mem_cons.mp h with e | h
  ·cases e
   exact ab4 List.mem_cons_self
  ·split
   ·exact ab3 h
   ·exact ab3 h
theorem V1:∀ {names:List (Str×NameKind)}{h:Heap}{acc:List (Str×Addr)}{x:Str}{c:Addr},(x,c)∈cellsFrom h.objs.size names acc ->
  (x,c)∈acc\/((x,.cell)∈names/\h.objs.size<=c/\bp0 (pushCells h names) c none)
 | [],_,_,_,_,h=>.inl h
 | (n,k)::r,h,acc,x,c,hm=>by
  unfold cellsFrom at hm
  unfold pushCells
  split at hm
  ·rename_i hk
   rw [if_pos hk]
   have hk:k=.cell:=by simpa using hk
   rw [<-Heap.size_push h { cls:=.type "cell",data:=.cell none }] at hm
   rcases V1 hm with hm | ⟨h1,h2,h3⟩
   ·rcases List.mem_cons.mp hm with e | hm
    ·cases e
     exact .inr ⟨hk▸List.mem_cons_self,Nat.le_refl _,_,pushCells_keeps r _ _ _ (Heap.get?_push_size _ rfl),rfl⟩
    ·exact .inl hm
   ·rw [Heap.size_push] at h2
    exact .inr ⟨List.mem_cons_of_mem _ h1,Nat.le_of_succ_le h2,h3⟩
  ·rename_i hk
   rw [if_neg hk]
   rcases V1 hm with hm | ⟨h1,h2,h3⟩
   ·exact .inl hm
   ·exact .inr ⟨List.mem_cons_of_mem _ h1,h2,h3⟩
theorem ac6:∀ {names:List (Str×NameKind)}{n:Nat}{acc:List (Str×Addr)}{p:Str×Addr},p∈acc->p∈cellsFrom n names acc
 | [],_,_,_,h=>h
 | (m,k)::r,n,acc,p,h=>by
  unfold cellsFrom
  split
  ·exact ac6 (List.mem_cons_of_mem _ h)
  ·exact ac6 h
theorem ak4:∀ {names:List (Str×NameKind)}{n:Nat}{acc:List (Str×Addr)}{x:Str},(x,.cell)∈names->∃ c,(x,c)∈cellsFrom n names acc
 | (m,k)::r,n,acc,x,h=>by
  unfold cellsFrom
  rcases List.mem_cons.mp h with e | h
  ·cases e
   exact ⟨n,ac6 List.mem_cons_self⟩
  ·split
   ·exact ak4 h
   ·exact ak4 h
theorem ak3:∀ {names:List (Str×NameKind)}{h:Heap}{acc:List (Str×Addr)}{x y:Str}{c:Addr},(∀ p∈acc,p.2 < h.objs.size)->(∀ x y c,(x,c)∈acc->(y,c)∈acc->x=y) ->
  (x,c)∈cellsFrom h.objs.size names acc->(y,c)∈cellsFrom h.objs.size names acc->x=y
 | [],_,_,_,_,_,_,hi,h1,h2=>hi _ _ _ h1 h2
 | (n,k)::r,h,acc,x,y,c,hl,hi,h1,h2=>by
  unfold cellsFrom at h1 h2
  split at h1
  ·rename_i hk
   rw [if_pos hk] at h2
   rw [<-Heap.size_push h { cls:=.type "cell",data:=.cell none }] at h1 h2
   refine ak3 (h:=h.push _) (fun p hp=>?_) (fun x y c a b=>?_) h1 h2
   ·rw [Heap.size_push]
    rcases List.mem_cons.mp hp with rfl | hp
    ·exact Nat.lt_succ_self _
    ·exact Nat.lt_succ_of_lt (hl p hp)
   ·rcases List.mem_cons.mp a with e | a<;>rcases List.mem_cons.mp b with e' | b
    ·cases e;cases e';rfl
    ·cases e;exact absurd (hl _ b) (Nat.lt_irrefl _)
    ·cases e';exact absurd (hl _ a) (Nat.lt_irrefl _)
    ·exact hi _ _ _ a b
  ·rename_i hk
   rw [if_neg hk] at h2
   exact ak3 hl hi h1 h2
theorem al6 {M:Model}{A:Around}{E:Value->Shared->Prop}{s:Shared}{scope:Scope}{globals:Addr}{closure:List (Str×Addr)}{qual:Str}{func:Option Addr}{code:Value}{around:Env}{builtins:Addr}{Q:Env->Shared->Prop}
  (h:Q (newEnv scope s.heap.objs.size globals (cellsFrom (s.heap.objs.size+1) scope.names closure) qual func code (some around) builtins)
   { s with heap:=pushCells (s.heap.push { cls:=.type "dict",data:=.dict #[] }) scope.names }) :
  wpAny M A (newFunctionEnv scope globals closure [] qual func code (some around) builtins) Q E s:=by
 simp only [newFunctionEnv,Option.isSome_some,if_true]
 refine wpAny_bind (wpAny_alloc ?_)
 refine wpAny_bind (wpAny_layCells _ (fun n k c=>rfl) scope.names closure _ _ ?_)
 rw [show ({ s with heap:=s.heap.push { cls:=.type "dict",data:=.dict #[] } }:Shared).heap.objs.size=s.heap.objs.size+1 from Heap.size_push ..]
 rw [List.forIn_nil]
 exact wpAny_bind (wpAny_pure (wpAny_pure h))
theorem aa6 {sc:Scope}:∀ {names:List (Str×NameKind)}{x:Str}{k:NameKind},
  (names.map fun (n,k)=>if (k == NameKind.free && sc.kind == .function && sc.names.lookup n == some .cell) then (n,NameKind.cell) else (n,k)).lookup x=some k ->
  ∃ k',names.lookup x=some k'/\(k=k'\/(k'=.free/\k=.cell))
 | [],_,_,h=>by simp at h
 | (n,k₀)::r,x,k,h=>by
  have ih:=@aa6 sc r x k
  have h':List.lookup x ((if (k₀ == NameKind.free && sc.kind == .function && sc.names.lookup n == some .cell)=true then (n,NameKind.cell) else (n,k₀))::(r.map _))=some k:=h
  cases hx:x == n with
  | true =>
   simp only [List.lookup_cons,hx]
   by_cases hc:(k₀ == NameKind.free && sc.kind == .function && sc.names.lookup n == some .cell)=true
   ·rw [if_pos hc] at h'
    simp only [List.lookup_cons,hx] at h'
    cases h'
    simp only [Bool.and_eq_true,beq_iff_eq] at hc
    exact ⟨k₀,rfl,.inr ⟨hc.1.1,rfl⟩⟩
   ·rw [if_neg hc] at h'
    simp only [List.lookup_cons,hx] at h'
    cases h'
    exact ⟨_,rfl,.inl rfl⟩
  | false =>
   simp only [List.lookup_cons,hx]
   by_cases hc:(k₀ == NameKind.free && sc.kind == .function && sc.names.lookup n == some .cell)=true
   ·rw [if_pos hc] at h'
    simp only [List.lookup_cons,hx] at h'
    exact ih h'
   ·rw [if_neg hc] at h'
    simp only [List.lookup_cons,hx] at h'
    exact ih h'
structure au0 (N:List Str)(sc scope:Scope)(own:List (Str×Nat)):Prop where
 kind:scope.kind=.function
 uniq:∀ y∈scope.names,scope.names.lookup y.1=some y.2
 ix:∀ p∈own,N[p.2]?=some p.1
 free:∀ y∈scope.names,y.2=.free->sc.names.lookup y.1=some .cell\/sc.names.lookup y.1=some .free
 own:∀ y∈scope.names,y.2=.local \/y.2=.cell->y.1∈own.map (·.1)\/y.1∉N
def J8 (σ:St):List Nat->St
 | []=>σ
 | v::vs=>(J8 σ vs).set v none
theorem Q3 (σ:St):∀ vs:List Nat,(J8 σ vs).length=σ.length
 | []=>rfl
 | v::vs=>by unfold J8;rw [List.length_set,Q3 σ vs]
theorem ab8 {σ:St}{i:Nat}{x:V}:∀ {vs:List Nat},(J8 σ vs)[i]?=some (some x)->σ[i]?=some (some x)/\i∉vs
 | [],h=>⟨h,by simp⟩
 | v::vs,h=>by
  unfold J8 at h
  by_cases hi:v=i
  ·subst hi
   by_cases hv:v < (J8 σ vs).length
   ·rw [List.getElem?_set_self hv] at h;cases h
   ·rw [List.getElem?_eq_none (by simpa using hv)] at h;cases h
  ·rw [List.getElem?_set_ne hi] at h
   obtain ⟨h1,h2⟩:=ab8 h
   exact ⟨h1,by simp only [List.mem_cons,not_or];exact ⟨fun e=>hi e.symm,h2⟩⟩
abbrev Cx.blk (X:Cx)(s:Shared)(H:Hp)(scope:Scope)(cenv:Env)(fp:List Addr):Cx:={ X with s_0:=s,H_0:=H,env:=cenv,outer:=X.stack,ex:=fp,fn:=fun x=>scope.names.lookup x == some .cell,pn:=[],xe:=fun _ _=>False }
section
variable {X:Cx}{pins:List (Addr×Obj)}{σ:St}{H:Hp}{s:Shared}
theorem am4 {scope:Scope}{own:List (Str×Nat)}{fp:List Addr}(I:Inv X pins σ H s)(ok:au0 X.N X.env.scope scope own)(hN:X.N.Nodup)(hfp:∀ b∈fp,Y9 X pins H b/\b < s.heap.objs.size) :
  Inv (X.blk s H scope (compEnvC scope (cellsFrom (s.heap.objs.size+1) scope.names (t8 X.env.cells scope.names [])) s.heap.objs.size X.env) fp) [] (J8 σ (own.map (·.2))) H { s with heap:=pushCells (s.heap.push { cls:=.type "dict",data:=.dict #[] }) scope.names }:=by
 have hfree:∀ y∈scope.names,y.2=.free->∃ c,X.env.cells.lookup y.1=some c:=fun y hy e=>by
  rcases ok.free y hy e with k | k
  ·exact I.ok.has _ (.inl k)
  ·exact I.ok.has _ (.inr k)
 generalize hcenv:compEnvC scope (cellsFrom (s.heap.objs.size+1) scope.names (t8 X.env.cells scope.names [])) s.heap.objs.size X.env=cenv
 have kp:∀ b o,s.heap.get? b=some o->(pushCells (s.heap.push { cls:=.type "dict",data:=.dict #[] }) scope.names).get? b=some o:=fun b o e=>pushCells_keeps _ _ _ _ (Heap.get?_push_of_some _ e)
 have hL:cenv.locals=s.heap.objs.size:=by rw [<-hcenv];rfl
 have hcl:cenv.cells=cellsFrom (s.heap.objs.size+1) scope.names (t8 X.env.cells scope.names []):=by rw [<-hcenv];rfl
 have hsc:cenv.scope=bT8 scope X.env.scope:=by rw [<-hcenv];rfl
 rw [<-Heap.size_push s.heap { cls:=.type "dict",data:=.dict #[] }] at hcl
 have cm:∀ {y c},(y,c)∈t8 X.env.cells scope.names []->X.env.cells.lookup y=some c/\c < s.heap.objs.size:=fun {y c} hm=>by
  rcases R0 hm with hm | ⟨h1,rfl⟩
  ·cases hm
  ·obtain ⟨c,hc⟩:=hfree _ h1 rfl
   rw [hc]
   obtain ⟨w,z⟩:=I.cell _ _ hc
   exact ⟨rfl,z.lt⟩
 have mem:∀ {y c},cenv.cells.lookup y=some c->(X.env.cells.lookup y=some c/\c < s.heap.objs.size)\/(s.heap.objs.size+1<=c/\bp0 (pushCells (s.heap.push { cls:=.type "dict",data:=.dict #[] }) scope.names) c none):=fun {y c} e=>by
  rw [hcl] at e
  rcases V1 (PySem.mem_of_lookup e) with hm | ⟨_,h2,h3⟩
  ·exact .inl (cm hm)
  ·rw [Heap.size_push] at h2;exact .inr ⟨h2,h3⟩
 have look:∀ {y},scope.names.lookup y=some .free->∃ c,cenv.cells.lookup y=some c/\X.env.cells.lookup y=some c:=fun {y} hl=>by
  have hy:(y,NameKind.free)∈scope.names:=PySem.mem_of_lookup hl
  obtain ⟨c',e'⟩:=ae5 (ac6 (names:=scope.names) (n:=(s.heap.push { cls:=.type "dict",data:=.dict #[] }).objs.size) (ab3 (cells:=X.env.cells) (acc:=[]) hy))
  rw [<-hcl] at e'
  refine ⟨c',e',?_⟩
  rw [hcl] at e'
  rcases V1 (PySem.mem_of_lookup e') with hm | ⟨h1,_,_⟩
  ·exact (cm hm).1
  ·have:=ok.uniq _ h1
   rw [hl] at this;cases this
 have okB:(X.blk s H scope cenv fp).Ok:=by
  refine ⟨I.ok.mod,by show cenv.scope.kind=_;rw [hsc];exact ok.kind,by show cenv.globals=_;rw [<-hcenv];exact I.ok.glob,by show cenv.builtins=_;rw [<-hcenv];exact I.ok.blt,by show s.heap.objs.size<=cenv.locals;rw [hL];exact Nat.le_refl _,
   fun y z c e1 e2=>?_,fun y hy=>?_,fun y c z e=>?_,I.ok.hd,I.ok.frames,.inl rfl,fun b hb=>⟨?_,fun y c e z=>?_⟩,I.bs,Nat.le_trans I.ok.bsz I.sz,fun b o e hb=>?_,fun b hb z=>?_,I.stack,I.stkFree⟩
  ·have e1:cenv.cells.lookup y=some c:=e1
   have e2:cenv.cells.lookup z=some c:=e2
   rw [hcl] at e1 e2
   refine ak3 (fun p hp=>?_) (fun y z c a b=>I.ok.inj y z c (cm a).1 (cm b).1) (PySem.mem_of_lookup e1) (PySem.mem_of_lookup e2)
   rw [Heap.size_push]
   exact Nat.lt_succ_of_lt (cm (y:=p.1) (c:=p.2) hp).2
  ·show ∃ c,cenv.cells.lookup y=some c
   have key:∀ k,cenv.kindOf y=some k->(k=.cell\/k=.free)->∃ c,cenv.cells.lookup y=some c:=fun k hk hk'=>by
    unfold Env.kindOf at hk
    rw [hsc] at hk
    obtain ⟨k',e,r⟩:=aa6 hk
    have:k'=.cell\/k'=.free:=by
     rcases r with rfl | ⟨rfl,_⟩
     ·exact hk'
     ·exact .inr rfl
    rcases this with rfl | rfl
    ·obtain ⟨c,hm⟩:=ak4 (n:=(s.heap.push { cls:=.type "dict",data:=.dict #[] }).objs.size) (acc:=t8 X.env.cells scope.names []) (PySem.mem_of_lookup e)
     obtain ⟨c',e'⟩:=ae5 hm
     exact ⟨c',by rw [hcl];exact e'⟩
    ·obtain ⟨c,h1,_⟩:=look e
     exact ⟨c,h1⟩
   rcases hy with hy | hy
   ·exact key _ hy (.inl rfl)
   ·exact key _ hy (.inr rfl)
  ·have z:(scope.names.lookup y == some NameKind.cell)=true:=z
   have z:scope.names.lookup y=some .cell:=by simpa using z
   have e:cenv.cells.lookup y=some c:=e
   rw [hcl] at e
   rcases V1 (PySem.mem_of_lookup e) with hm | ⟨_,h2,_⟩
   ·rcases R0 hm with hm | ⟨h1,_⟩
    ·cases hm
    ·have q:=ok.uniq _ h1
     rw [z] at q;cases q
   ·rw [Heap.size_push] at h2
    exact Nat.le_of_succ_le h2
  ·show b≠cenv.locals
   rw [hL];exact Nat.ne_of_lt (hfp b hb).2
  ·have e:cenv.cells.lookup y=some c:=e
   rcases mem e with ⟨h1,_⟩ | ⟨h1,_⟩
   ·exact (hfp b hb).1.2.2.2.2.1 y c h1 z
   ·have h2:s.heap.objs.size+1<=b:=by rw [<-z];exact h1
    exact absurd (Nat.lt_of_lt_of_le (hfp b hb).2 (Nat.le_of_succ_le h2)) (Nat.lt_irrefl _)
  ·rcases (hfp b hb).1.2.2.2.1 with z | z
   ·exact I.ok.noex b o e z
   ·exact absurd (Nat.lt_of_lt_of_le (Heap.lt_size e) (Nat.le_trans I.ok.bsz z)) (Nat.lt_irrefl _)
  ·rcases List.mem_cons.mp (I.stkSub b z) with z | z
   ·exact (hfp b hb).1.2.1 z
   ·exact (hfp b hb).1.2.2.1 z
 refine ⟨okB,rfl,I.bare,Un.kept kp,⟨fun _=>none,?_,fun i y av e1 e2 e3=>?_⟩,fun y c e=>?_,?_,fun y c e=>?_,fun p hp=>?_,I.hok.kept kp,by rw [Q3];exact I.len⟩
 ·show Heap.Ns _ cenv.locals _
  rw [hL]
  exact Heap.Ns.keeps (Heap.Ns.new ..) fun b o e=>pushCells_keeps _ _ _ _ e
 ·obtain ⟨e2,hne⟩:=ab8 e2
  have hfr:scope.names.lookup y=some .free/\(cenv.kindOf y=some .cell\/cenv.kindOf y=some .free):=by
   have key:∀ k,cenv.scope.names.lookup y=some k->k=.local \/k=.cell\/k=.free->scope.names.lookup y=some .free/\(cenv.kindOf y=some .cell\/cenv.kindOf y=some .free):=fun k hk hk'=>by
    have hk0:=hk
    rw [hsc] at hk
    obtain ⟨k',e,r⟩:=aa6 hk
    have no:¬ (k'=.local \/k'=.cell):=fun hh=>by
     rcases ok.own _ (PySem.mem_of_lookup e) hh with e' | e'
     ·obtain ⟨p,hp,hpy⟩:=List.mem_map.mp e'
      have e3:=ok.ix p hp
      have:p.1=y:=hpy
      rw [this] at e3
      exact hne (List.mem_map.mpr ⟨p,hp,ar5 hN e3 e1⟩)
     ·exact e' (List.mem_of_getElem? e1)
    rcases r with rfl | ⟨rfl,rfl⟩
    ·rcases hk' with rfl | rfl | rfl
     ·exact absurd (.inl rfl) no
     ·exact absurd (.inr rfl) no
     ·exact ⟨e,.inr hk0⟩
    ·exact ⟨e,.inl hk0⟩
   have e3:Vis cenv.scope y:=e3
   rcases e3 with e3 | e3 | e3
   ·exact key _ e3 (.inl rfl)
   ·exact key _ e3 (.inr (.inl rfl))
   ·exact key _ e3 (.inr (.inr rfl))
  obtain ⟨m,hn,hl⟩:=I.loc
  have hvis:Vis X.env.scope y:=(ok.free _ (PySem.mem_of_lookup hfr.1) rfl).elim (fun k=>.inr (.inl k)) (fun k=>.inr (.inr k))
  obtain ⟨w,r,q⟩:=hl i y av e1 e2 hvis
  refine ⟨w,r,.inr ⟨hfr.2,?_⟩⟩
  obtain ⟨c,h1,h2⟩:=look hfr.1
  rcases q with ⟨k,_⟩ | ⟨_,c',e',z⟩
  ·have k:X.env.scope.names.lookup y=some .local:=k
   rcases ok.free _ (PySem.mem_of_lookup hfr.1) rfl with k' | k'<;>rw [show X.env.scope.names.lookup y=_ from k'] at k<;>cases k
  ·rw [h2] at e';cases e'
   exact ⟨c,h1,z.keeps kp⟩
 ·have e:cenv.cells.lookup y=some c:=e
  rcases mem e with ⟨h1,_⟩ | ⟨_,z⟩
  ·obtain ⟨w,z⟩:=I.cell y c h1
   exact ⟨w,z.keeps kp⟩
  ·exact ⟨_,z⟩
 ·show H cenv.locals=none
  rw [hL];exact I.hok.fresh (Nat.le_refl _)
 ·have e:cenv.cells.lookup y=some c:=e
  rcases mem e with ⟨h1,_⟩ | ⟨h1,_⟩
  ·exact I.freeC y c h1
  ·exact I.hok.fresh (Nat.le_of_succ_le h1)
 ·exact absurd (show p∈([]:List (Addr×Obj))++[] from hp) (by simp)
theorem bo4 {E:Value->Shared->Prop}{D:Addr}{xs:List V}{y:V}{v:Value}{Q:Value->Shared->Prop}(I:Inv X pins σ H s)(hD:H D=some (.lst xs))(hz:xs.length < sizeLine)(r:t9 y v)
  (h:∀ s',Inv X pins σ (upd H D (.lst (xs++[y]))) s'->Q .none s'):wpAny (model X.prog X.w) X.A (call (.builtin "list.append") [.ref D,v]) Q E s:=by
 obtain ⟨hz',its,n,ri,e⟩:=I.hok D _ hD
 have hl:=ri.length
 refine append_at (hsz:=by rw [List.size_toArray];omega) e fun h' sb ho'=>?_
 refine h { s with heap:=h' } (I.write (t':=s.toks) (by rw [hD];trivial) (.inl rfl) (fun b u hb q=>(sb.2 b hb).trans q) ⟨_,ho'⟩ ⟨by rw [List.length_append];exact hz,its++[v],n+1,ri.append (.cons r .nil),?_⟩)
 rw [ho']
 simp
def PTs (X:Cx)(ifs:List Expr)(t:TT):Prop :=
 ∀ (pins:List (Addr×Obj)) (s:Shared) (σ:St) (H:Hp) (Q:Bool->Hp->Prop),Inv X pins σ H s->t σ H Q ->
  wpAny (model X.prog X.w) X.A (forIn ifs true fun c r=>if r=true then do let ok ← isTrue c X.env (eval c X.env);pure (ForInStep.yield ok) else pure (ForInStep.yield r)) (TP X pins σ Q) X.xe s
def bS6:TT:=fun _ H Q=>Q true H
theorem ao1:PTs X [] bS6:=fun _ _ _ H _ I h=>wpAny_tests_nil ⟨H,I,h⟩
end
theorem ap2 {α:Type}{t:Sem α}{Q Q':α->Shared->Prop}{M:Model}{A:Around}{E:Value->Shared->Prop}{s:Shared}(h:wpAny M A t Q (fun _ _=>False) s)(hQ:∀ a s,Q a s->Q' a s):wpAny M A t Q' E s:=wpAny_mono h hQ fun _ _ z=>False.elim z
theorem ah7 {prog:Program}{w:World}{A:Around}{R:Result->Shared->Prop}{s:Shared}{elt target iter:Expr}{ifs:List Expr}{scope:Scope}{pos:Pos}{it acc:Value}{env:Env}(I:Nat->Shared->Prop)
  (turn:∀ n s,I n s->wpAny (model prog w) A (pyNext it) (fun r s₁=>match r with
   | none=>R (.ok .next) s₁
   | some v=>wpAny (model prog w) A (letOwnedTupleGo target it v) (fun _ s₁'=>wpAny (model prog w) A (assign target env v) (fun _ s₂ =>
     wpAny (model prog w) A (forIn ifs true fun c r=>if r=true then do let ok ← isTrue c env (eval c env);pure (ForInStep.yield ok) else pure (ForInStep.yield r)) (fun ok s₃ =>
      if ok=true then wpAny (model prog w) A (eval elt env) (fun x s₄ =>
       wpAny (model prog w) A (call (.builtin "list.append") [acc,x]) (fun _ s₅=>∃ m,m < n/\I m s₅) (notedBy (model prog w) A env fun e s'=>R (.error e) s') s₄) (notedBy (model prog w) A env fun e s'=>R (.error e) s') s₃
      else ∃ m,m < n/\I m s₃) (notedBy (model prog w) A env fun e s'=>R (.error e) s') s₂) (notedBy (model prog w) A env fun e s'=>R (.error e) s') s₁') (notedBy (model prog w) A env fun e s'=>R (.error e) s') s₁) (notedBy (model prog w) A env fun e s'=>R (.error e) s') s)
  (n:Nat) (h:I n s) :
  codeAny (model prog w) A (.compLoop (.ListComp elt [⟨target,iter,ifs,0⟩] scope pos) 0 it acc env) R s:=by
 refine codeAny_loop rfl I (fun n s hI=>?_) n h
 show wpAny _ A ((compTurn (.ListComp elt [⟨target,iter,ifs,0⟩] scope pos) 0 it acc env).onRaise (fun x=>do noteFrame x env;theTreesLotGoes x)) _ _ s
 refine wpAny_noted ?_
 rw [compTurn_list]
 refine wpAny_bind (wpAny_standAt (wpAny_bind (wpAny_mono (turn n s hI) (fun r s₁ h₁=>?_) fun _ _ h'=>h')))
 cases r with
 | none=>exact wpAny_pure h₁
 | some v =>
  refine wpAny_bind (wpAny_mono h₁ (fun _ s₁' h₁'=>?_) fun _ _ h'=>h')
  refine wpAny_bind (wpAny_mono h₁' (fun _ s₂ h₂=>wpAny_bind (wpAny_mono h₂ (fun ok s₃ h₃=>?_) fun _ _ h'=>h')) fun _ _ h'=>h')
  cases ok with
  | false=>exact wpAny_pure ⟨rfl,h₃⟩
  | true =>
   exact wpAny_bind (wpAny_bind (wpAny_mono h₃ (fun x s₄ h₄=>wpAny_bind (wpAny_mono h₄ (fun _ s₅ h₅=>wpAny_pure (wpAny_pure ⟨rfl,h₅⟩)) fun _ _ h'=>h')) fun _ _ h'=>h'))
section
variable {X:Cx}
def tLc (wi:TI)(g:TG)(tt:TT)(te:TE)(vs:List Nat):TE:=fun σ H Q=>wi σ H fun J H1=>∀ D,H1 D=none->∃ W:Nat->Nat->Hp->Prop,(∃ m,W 0 m (upd H1 D (.lst [])))/\∀ i m H,W i m H ->
 (J.stop i H/\Q (.ref D) H)\/(J.go i H/\∃ Nx:Hp->Prop,(∀ H',Nx H'->∃ m',m' < m/\W (i+1) m' H')/\∀ x H',J.yld i H x H'->g x (J8 σ vs) H' fun σ2 H2=>J8 σ2 vs=J8 σ vs/\tt σ2 H2 fun b H3 =>
  if b=true then te σ2 H3 fun y H4=>∃ acc,H4 D=some (.lst acc)/\acc.length < sizeLine/\Nx (upd H4 D (.lst (acc++[y]))) else Nx H3)
theorem aS7 {pins:List (Addr×Obj)}{s:Shared}{σ:St}{H:Hp}{Q:VK}{elt tg iter:Expr}{ifs:List Expr}{scope:Scope}{own:List (Str×Nat)}{pos pos':Pos}{wi:TI}{g:TG}{tt:TT}{te:TE}{use:Option (Value->Sem Unit)}{Qf:Value->Shared->Prop}
  (hc:X.calm=true) (hN:X.N.Nodup) (I:Inv X pins σ H s) (hi:PI X tg iter wi) (ok:au0 X.N X.env.scope scope own)
  (hg:∀ (s:Shared) (H:Hp) (C:Addr) (cl:List (Str×Addr)) (fp:List Addr),PG (X.blk s H scope (compEnvC scope cl C X.env) fp) tg g) (ht:∀ (s:Shared) (H:Hp) (C:Addr) (cl:List (Str×Addr)) (fp:List Addr),PTs (X.blk s H scope (compEnvC scope cl C X.env) fp) ifs tt)
  (he:∀ (s:Shared) (H:Hp) (C:Addr) (cl:List (Str×Addr)) (fp:List Addr),PE (X.blk s H scope (compEnvC scope cl C X.env) fp) elt te) (hs:∀ x,foldedSetIterable iter X.env x=pure x)
  (h:tLc wi g tt te (own.map (·.2)) σ H Q)
  (hRR:∀ D C s' m H',Inv X pins σ H' s'->Q (.ref D) H'->s'.heap.Ns C m->Y9 X pins H' C->compPost (model X.prog X.w) X.A X.xe use Qf (.ref D) C (.ok .next) s') :
  wpAny (model X.prog X.w) X.A (comprehension (.ListComp elt [⟨tg,iter,ifs,0⟩] scope pos) scope X.env pos' (newList []) false (eval iter X.env) use) Qf X.xe s:=by
 have hfree:∀ y∈scope.names,y.2=.free->∃ c,X.env.cells.lookup y.1=some c:=fun y hy e=>by
  rcases ok.free y hy e with k | k
  ·exact I.ok.has _ (.inl k)
  ·exact I.ok.has _ (.inr k)
 refine wpAny_comprehension_free (use:=use) rfl hs (at4 hfree) ok.kind (fun y hy e=>by rw [ok.uniq y hy,e])
  (thn (hi pins s σ H _ I h) fun xv s1 hx=>thn hx fun itv s2 h2=>?_)
 obtain ⟨it,fp,tn,J,H2,e,I2,T,st2,f2,q⟩:=h2
 subst e
 refine wpAny_newObj_type (al6 ?_) (by show 0<=sizeLine;decide)
 generalize hD:s2.heap.objs.size=D
 have hDn:H2 D=none:=I2.hok.fresh (Nat.le_of_eq hD)
 obtain ⟨W,⟨m0,w0⟩,turn⟩:=q D hDn
 generalize hs3:({ s2 with heap:=s2.heap.push { cls:=.type "list",data:=.seq ([]:List Value).toArray } }:Shared)=s3
 have I3:Inv X pins σ (upd H2 D (.lst [])) s3:=by
  rw [<-hs3]
  refine I2.laid (t':=s2.toks) (fun b o e=>Heap.get?_push_of_some _ e) (Nat.le_of_eq hD) ⟨Nat.zero_le _,[],0,.nil,?_⟩
  rw [<-hD]
  exact Heap.get?_push_size _ rfl
 have h3:s3.heap=s2.heap.push { cls:=.type "list",data:=.seq ([]:List Value).toArray }:=by rw [<-hs3]
 have sz:∀ b∈fp,b < s2.heap.objs.size:=fun b hb=>by
  obtain ⟨o,e,_⟩:=T.obj _ _ st2 b hb
  exact Heap.lt_size e
 have f3:∀ b∈fp,Y9 X pins (upd H2 D (.lst [])) b/\b < s3.heap.objs.size:=fun b hb=>by
  have hlt:=sz b hb
  refine ⟨⟨?_,(f2 b hb).2⟩,by rw [h3,Heap.size_push];exact Nat.lt_succ_of_lt hlt⟩
  rw [d6 (by rw [<-hD];exact Nat.ne_of_lt hlt)]
  exact (f2 b hb).1
 have st3:tn 0 s3.heap:=T.keep _ _ _ st2 fun b _ o e=>by rw [h3];exact Heap.get?_push_of_some _ e
 have I4:=am4 I3 ok hN f3
 have pg:=hg s3 (upd H2 D (.lst [])) s3.heap.objs.size (cellsFrom (s3.heap.objs.size+1) scope.names (t8 X.env.cells scope.names [])) fp
 have pt:=ht s3 (upd H2 D (.lst [])) s3.heap.objs.size (cellsFrom (s3.heap.objs.size+1) scope.names (t8 X.env.cells scope.names [])) fp
 have pe:=he s3 (upd H2 D (.lst [])) s3.heap.objs.size (cellsFrom (s3.heap.objs.size+1) scope.names (t8 X.env.cells scope.names [])) fp
 show codeAny _ _ (.compStart (.ListComp elt [⟨tg,iter,ifs,0⟩] scope pos) 0 (.ref it) (.ref D) (compEnvC scope (cellsFrom (s3.heap.objs.size+1) scope.names (t8 X.env.cells scope.names [])) s3.heap.objs.size X.env)) (compPost (model X.prog X.w) X.A X.xe use Qf (.ref D) s3.heap.objs.size) { s3 with heap:=pushCells (s3.heap.push { cls:=.type "dict",data:=.dict #[] }) scope.names }
 have nfp:∀ b∈fp,(upd H2 D (.lst [])) b=none:=fun b hb=>(f3 b hb).1.1
 generalize hce:compEnvC scope (cellsFrom (s3.heap.objs.size+1) scope.names (t8 X.env.cells scope.names [])) s3.heap.objs.size X.env=ce at I4 pg pt pe ⊢
 have cL:ce.locals=s3.heap.objs.size:=by subst hce;rfl
 generalize hH3:upd H2 D (.lst [])=H3 at I3 I4 pg pt pe w0 nfp f3
 generalize hs4:({ s3 with heap:=pushCells (s3.heap.push { cls:=.type "dict",data:=.dict #[] }) scope.names }:Shared)=s4 at I4 ⊢
 have st4:tn 0 s4.heap:=T.keep _ _ _ st3 fun b _ o e=>by rw [<-hs4];exact pushCells_keeps _ _ _ _ (Heap.get?_push_of_some _ e)
 have stat:∀ {σ':St}{H':Hp}{s':Shared},Inv (X.blk s3 H3 scope ce fp) [] σ' H' s'->(∀ b∈fp,H' b=none)->∀ b∈fp,Y9 (X.blk s3 H3 scope ce fp) [] H' b:=fun {σ' H' s'} I' hn b hb =>
  ⟨hn b hb,(I'.ok.exf b hb).1,I'.ok.exfs b hb,.inl hb,fun x c e=>(I'.ok.exf b hb).2 x c e,fun p hp=>absurd (show p∈([]:List (Addr×Obj))++[] from hp) (by simp)⟩
 have loop:codeAny (model X.prog X.w) X.A (.compLoop (.ListComp elt [⟨tg,iter,ifs,0⟩] scope pos) 0 (.ref it) (.ref D) ce) (compPost (model X.prog X.w) X.A X.xe use Qf (.ref D) s3.heap.objs.size) s4:=by
  refine ah7 (fun n s'=>∃ i H',Inv (X.blk s3 H3 scope ce fp) [] (J8 σ (own.map (·.2))) H' s'/\tn i s'.heap/\(∀ b∈fp,H' b=none)/\W i n H') ?_ m0 ⟨0,H3,I4,st4,nfp,w0⟩
  rintro n s5 ⟨i,H5,I5,st5,n5,w5⟩
  rcases turn i n H5 w5 with ⟨stop,qq⟩ | ⟨go,Nx,hNx,step⟩
  ·have td:=T.done (X.blk s3 H3 scope ce fp) rfl rfl rfl hc i [] s5 _ H5 (fun _ _=>False) I5 (stat I5 n5) st5 stop
   refine ap2 td fun r s6 ⟨hr,I6⟩=>?_
   subst hr
   have I7:Inv X pins σ H5 s6:=I3.call' (ch:=fp) I6.os I6.base I6.hok I6.bare fun b hb=>⟨(f3 b hb).1.2.2.2.1,(f3 b hb).1.2.1,(f3 b hb).1.2.2.2.2.1,(f3 b hb).1.2.2.2.2.2⟩
   have nC:H5 s3.heap.objs.size=none:=by
    have z:H5 ce.locals=none:=I6.free
    rw [cL] at z
    exact z
   obtain ⟨m,hn,_⟩:=I6.loc
   have hn:s6.heap.Ns ce.locals m:=hn
   rw [cL] at hn
   exact hRR D s3.heap.objs.size s6 m H5 I7 qq hn (I3.fpOk (Nat.le_refl _) nC)
  ·have ti:=T.item (X.blk s3 H3 scope ce fp) rfl rfl rfl hc i [] s5 _ H5 (fun _ _=>False) I5 (stat I5 n5) st5 go
   refine ap2 ti fun r s6 ⟨u,hr,h6⟩=>?_
   subst hr
   refine ap2 h6 fun _ s7 ⟨x,H7,I7,r7,y7,st7,n7⟩=>?_
   have I7':=I7.pinned (stat I7 n7) (T.obj _ _ st7)
   refine ap2 (pg _ s7 _ H7 x u _ I7' r7 (step x H7 y7)) fun _ s8 ⟨σ8,H8,I8,hw8,q8⟩=>?_
   refine ap2 (pt _ s8 σ8 H8 _ I8 q8) fun b s9 ⟨H9,I9,q9⟩=>?_
   have fin:∀ {s':Shared}{H':Hp},Inv (X.blk s3 H3 scope ce fp) ([]++T4 fp s7.heap) σ8 H' s'->Nx H'->∃ m,m < n/\∃ i H',Inv (X.blk s3 H3 scope ce fp) [] (J8 σ (own.map (·.2))) H' s'/\tn i s'.heap/\(∀ b∈fp,H' b=none)/\W i m H':=fun {s' H'} I' nx=>by
    obtain ⟨m',hm,w'⟩:=hNx H' nx
    have pin':∀ b∈fp,∀ o,s7.heap.get? b=some o->s'.heap.get? b=some o/\H' b=none:=fun b hb o e =>
     let z:=I'.pin (b,o) (List.mem_append_right _ (List.mem_append_right _ (P2 hb e)))
     ⟨z.1,z.2.1⟩
    have hl:(J8 σ (own.map (·.2))).length=σ8.length:=by rw [<-hw8,Q3]
    refine ⟨m',hm,i+1,H',(I'.unpinned (pins:=[])).weak hl (fun j v e=>?_),T.keep _ _ _ st7 fun b hb o e=>(pin' b hb o e).1,fun b hb=>?_,w'⟩
    ·rw [<-hw8] at e
     exact (ab8 e).1
    ·obtain ⟨o,e,_⟩:=T.obj _ _ st7 b hb
     exact (pin' b hb o e).2
   cases b with
   | false =>
    simp only [Bool.false_eq_true,if_false] at q9 ⊢
    exact fin I9 q9
   | true =>
    simp only [if_true] at q9 ⊢
    refine ap2 (pe _ s9 σ8 H9 _ I9 q9) fun z s10 ⟨yv,H10,I10,r10,acc,hD10,hz10,nx⟩=>?_
    exact bo4 (X:=X.blk s3 H3 scope ce fp) I10 hD10 hz10 r10 fun s11 I11=>fin I11 nx
 exact codeAny_compStart_list loop (T.self X.A 0 _ _ _ st4 loop)
theorem bP2 {elt tg iter:Expr}{ifs:List Expr}{scope:Scope}{own:List (Str×Nat)}{pos:Pos}{wi:TI}{g:TG}{tt:TT}{te:TE}(hc:X.calm=true)(hN:X.N.Nodup)(hi:PI X tg iter wi)(ok:au0 X.N X.env.scope scope own)
  (hg:∀ (s:Shared) (H:Hp) (C:Addr) (cl:List (Str×Addr)) (fp:List Addr),PG (X.blk s H scope (compEnvC scope cl C X.env) fp) tg g) (ht:∀ (s:Shared) (H:Hp) (C:Addr) (cl:List (Str×Addr)) (fp:List Addr),PTs (X.blk s H scope (compEnvC scope cl C X.env) fp) ifs tt)
  (he:∀ (s:Shared) (H:Hp) (C:Addr) (cl:List (Str×Addr)) (fp:List Addr),PE (X.blk s H scope (compEnvC scope cl C X.env) fp) elt te) (hs:∀ x,foldedSetIterable iter X.env x=pure x:=by intro _;rfl) :
  PE X (.ListComp elt [⟨tg,iter,ifs,0⟩] scope pos) (tLc wi g tt te (own.map (·.2))):=by
 intro pins s σ H Q I h
 rw [eval_ListComp]
 refine aS7 hc hN I hi ok hg ht he hs h fun D C s' m H' I' q hn f=>⟨m,hn,fun h'' sb=>?_⟩
 obtain ⟨f0,f1,f2,f3,f4,f5⟩:=f
 exact ⟨.ref D,H',I'.turned (t':=s'.toks) (fun b o hb e=>(sb.2 b hb).trans e) f0 f1 f3 f4 f5,rfl,q⟩
theorem bh8 {i:Nat}{y:Str}{py:Pos}{elt tg iter:Expr}{ifs:List Expr}{scope:Scope}{own:List (Str×Nat)}{pos spos:Pos}{wi:TI}{g:TG}{tt:TT}{te:TE}(hc:X.calm=true)(hN:X.N.Nodup)(hy:X.N[i]?=some y)(hyl:X.env.scope.names.lookup y=some .local)
  (hsw:swapsWith (.ListComp elt [⟨tg,iter,ifs,0⟩] scope pos) (some (.Name y py)) spos.line X.env=pure true) (hi:PI X tg iter wi) (ok:au0 X.N X.env.scope scope own)
  (hg:∀ (s:Shared) (H:Hp) (C:Addr) (cl:List (Str×Addr)) (fp:List Addr),PG (X.blk s H scope (compEnvC scope cl C X.env) fp) tg g) (ht:∀ (s:Shared) (H:Hp) (C:Addr) (cl:List (Str×Addr)) (fp:List Addr),PTs (X.blk s H scope (compEnvC scope cl C X.env) fp) ifs tt)
  (he:∀ (s:Shared) (H:Hp) (C:Addr) (cl:List (Str×Addr)) (fp:List Addr),PE (X.blk s H scope (compEnvC scope cl C X.env) fp) elt te) (hs:∀ x,foldedSetIterable iter X.env x=pure x:=by intro _;rfl) :
  PS X (.Assign [.Name y py] (.ListComp elt [⟨tg,iter,ifs,0⟩] scope pos) spos) (bC9 (tLc wi g tt te (own.map (·.2))) (ax9 i)):=by
 intro pins s σ H D I h
 rw [exec_Assign_Name_used _ _ _ _ hsw]
 refine wpAny_bind (wpAny_standAt (wpAny_bind ?_))
 show wpAny _ X.A (do let _ ← comprehension (.ListComp elt [⟨tg,iter,ifs,0⟩] scope pos) scope X.env (firstIterPos [⟨tg,iter,ifs,0⟩] pos) (newList []) false (eval iter X.env) (some (assign (.Name y py) X.env))) _ _ s
 have h:tLc wi g tt te (own.map (·.2)) σ H (fun x H1=>ax9 i x σ H1 D.nx):=h
 refine wpAny_bind (thn (aS7 (Qf:=fun _ s'=>SP X pins D .next s') hc hN I hi ok hg ht he hs h fun L C s' m H' I' q hn f=>?_) fun _ s' hq=>wpAny_pure (wpAny_pure hq))
 show wpAny _ _ (assign (.Name y py) X.env (.ref L)) _ _ _
 refine wpAny_assign_Name (ac0 (v:=V.ref L) I' hN hy (.inl hyl) rfl (fun s2 I2 ⟨a,sb,ha⟩=>?_) (.inr hyl))
 obtain ⟨f0,f1,f2,f3,f4,f5⟩:=f
 have haC:C≠a:=by
  rcases ha with z | z
  ·rw [z];exact f1
  ·exact fun e=>f4 y a z e.symm
 refine ⟨m,hn.sameBut sb haC,fun h3 sb3=>?_⟩
 exact ⟨_,H',I2.turned (t':=s2.toks) (fun b o hb e=>(sb3.2 b hb).trans e) f0 f1 f3 f4 f5,q⟩
theorem az8 {elt:Expr}{gs:List Comprehension}{scope:Scope}{pos py:Pos}{y:Str}{l:Nat}{env:Env}(hk:env.scope.kind=.function)(hy:env.scope.names.lookup y=some .local)(hl:(py.line == pos.line)=true)
  (ha:(scope.names.any fun (n,k)=>n == y && (k == .local || k == .cell))=false):swapsWith (.ListComp elt gs scope pos) (some (.Name y py)) l env=pure true:=by
 have ky:env.kindOf y=some .local:=hy
 have hb:env.blockKind=.function:=by unfold Env.blockKind;rw [hk];rfl
 unfold swapsWith
 simp only [hb,ky,ha,Expr.pos,hl]
 rfl
end
theorem aS6 {K:W.Frag}{a:Addr}{xs:List V}{g:TG}{tt:TT}{te:TE}{vs:List Nat}{σ:St}{H1:Hp}{D:Addr}{Qd:Hp->Prop}(Pv:Nat->Hp->Prop)(h0:Pv 0 (upd H1 D (.lst [])))(hl:∀ i H,i<=xs.length->Pv i H->SqL K H a xs)
  (hs:∀ i x H,xs[i]?=some x->Pv i H->g x (J8 σ vs) H fun σ2 H2=>J8 σ2 vs=J8 σ vs/\tt σ2 H2 fun b H3 =>
   if b=true then te σ2 H3 fun y H4=>∃ acc,H4 D=some (.lst acc)/\acc.length < sizeLine/\Pv (i+1) (upd H4 D (.lst (acc++[y]))) else Pv (i+1) H3) (hd:∀ H,Pv xs.length H->Qd H) :
  ∃ W:Nat->Nat->Hp->Prop,(∃ m,W 0 m (upd H1 D (.lst [])))/\∀ i m H,W i m H ->
   ((Itl K a).stop i H/\Qd H)\/((Itl K a).go i H/\∃ Nx:Hp->Prop,(∀ H',Nx H'->∃ m',m' < m/\W (i+1) m' H')/\∀ x H',(Itl K a).yld i H x H'->g x (J8 σ vs) H' fun σ2 H2=>J8 σ2 vs=J8 σ vs/\tt σ2 H2 fun b H3 =>
    if b=true then te σ2 H3 fun y H4=>∃ acc,H4 D=some (.lst acc)/\acc.length < sizeLine/\Nx (upd H4 D (.lst (acc++[y]))) else Nx H3):=by
 refine ⟨fun i m H=>m=xs.length - i/\i<=xs.length/\Pv i H,⟨xs.length,by simp,Nat.zero_le _,h0⟩,?_⟩
 rintro i m H ⟨rfl,hi,p⟩
 have q:=hl i H hi p
 by_cases hlt:i < xs.length
 ·refine .inr ⟨⟨xs,xs[i],q,by simp [hlt]⟩,Pv (i+1),fun H' p'=>⟨xs.length - (i+1),by omega,rfl,hlt,p'⟩,fun x H' y=>?_⟩
  obtain ⟨e,y⟩:=y
  subst e
  exact hs i x _ (y xs q) p
 ·have e:i=xs.length:=by omega
  subst e
  exact .inl ⟨⟨xs,q,Nat.le_refl _⟩,hd H p⟩
def bb0 (N:List Str)(sc scope:Scope)(own:List (Str×Nat)):Bool :=
 (match scope.kind with | .function=>true | _=>false) && (scope.names.all fun y=>decide (scope.names.lookup y.1=some y.2)) && (own.all fun p=>decide (N[p.2]?=some p.1)) &&
  (scope.names.all fun y=>match y.2 with
   | .free=>(match sc.names.lookup y.1 with | some .cell=>true | some .free=>true | _=>false)
   | .local=>decide (y.1∈own.map (·.1)) || decide (y.1∉N)
   | .cell=>decide (y.1∈own.map (·.1)) || decide (y.1∉N)
   | _=>true)
theorem ai0 {N:List Str}{sc scope:Scope}{own:List (Str×Nat)}(h:bb0 N sc scope own=true):au0 N sc scope own:=by
 unfold bb0 at h
 simp only [Bool.and_eq_true,List.all_eq_true,decide_eq_true_eq] at h
 obtain ⟨⟨⟨h1,h2⟩,h3⟩,h4⟩:=h
 refine ⟨?_,h2,h3,fun y hy e=>?_,fun y hy e=>?_⟩
 ·split at h1
  ·assumption
  ·cases h1
 ·have q:=h4 y hy
  simp only [e] at q
  split at q<;>first | exact .inl (by assumption) | exact .inr (by assumption) | cases q
 ·have q:=h4 y hy
  rcases e with e | e<;>(simp only [e,Bool.or_eq_true,decide_eq_true_eq] at q;exact q)
end L2
namespace L2
open PySem PySem.Spec PyProof.Rows
end L2
namespace L2
open PySem PySem.Spec PyProof.Rows
section
variable {κ:Type}[DecidableEq κ]
def P8 (kvs:List (κ×V))(k:κ):Option V:=(kvs.find? fun kv=>decide (kv.1=k)).map (·.2)
def aj8 (kvs:List (κ×V))(k:κ)(v:V):List (κ×V) :=
 if (kvs.any fun kv=>decide (kv.1=k))=true then kvs.map (fun kv=>if kv.1=k then (kv.1,v) else kv) else kvs++[(k,v)]
theorem Z4 {p:κ×V}{r:List (κ×V)}{k:κ}(e:p.1=k):P8 (p::r) k=some p.2:=by simp [P8,List.find?_cons,e]
theorem Z5 {p:κ×V}{r:List (κ×V)}{k:κ}(e:¬ p.1=k):P8 (p::r) k=P8 r k:=by simp [P8,List.find?_cons,e]
theorem ao7 (k:κ):∀ kvs:List (κ×V),(kvs.any fun kv=>decide (kv.1=k))=(P8 kvs k).isSome
 | []=>rfl
 | p::r=>by
  rw [List.any_cons]
  by_cases e:p.1=k
  ·simp only [Z4 e,decide_eq_true e,Bool.true_or,Option.isSome_some]
  ·rw [Z5 e,decide_eq_false e,Bool.false_or];exact ao7 k r
theorem al9 (kvs:List (κ×V))(k:κ)(v:V):(aj8 kvs k v).length<=kvs.length+1:=by
 unfold aj8
 split
 ·rw [List.length_map];omega
 ·rw [List.length_append,List.length_cons,List.length_nil];omega
theorem aF6 {kvs:List (κ×V)}{k:κ}(v:V)(h:P8 kvs k=none):aj8 kvs k v=kvs++[(k,v)]:=by
 unfold aj8
 rw [ao7,h]
 exact if_neg (by decide)
theorem V3.isSome_eq {o:Option V}{u:Option Value}(r:V3 o u):o.isSome=u.isSome:=by
 cases o with
 | none=>cases u with
  | none=>rfl
  | some _=>exact (show False from r).elim
 | some _=>cases u with
  | none=>exact (show False from r).elim
  | some _=>rfl
theorem KV.val {kvs:List (κ×V)}{vs:List (κ×Value)}(r:KV kvs vs)(k:κ):V3 (P8 kvs k) (valueAt vs k):=by
 unfold KV at r
 induction r with
 | nil=>exact True.intro
 | @cons p q ps qs h t ih =>
  obtain ⟨h1,h2⟩:=h
  by_cases e:p.1=k
  ·have e':q.1=k:=h1.symm.trans e
   have b:valueAt (q::qs) k=some q.2:=by simp [valueAt,List.find?_cons,e']
   rw [Z4 e,b];exact h2
  ·have e':¬ q.1=k:=fun z=>e (h1.trans z)
   have b:valueAt (q::qs) k=valueAt qs k:=by simp [valueAt,List.find?_cons,e']
   rw [Z5 e,b];exact ih
theorem KV.any {kvs:List (κ×V)}{vs:List (κ×Value)}(r:KV kvs vs)(k:κ):(kvs.any fun kv=>decide (kv.1=k))=vs.any fun kv=>decide (kv.1=k):=by
 unfold KV at r
 induction r with
 | nil=>rfl
 | cons h t ih=>rw [List.any_cons,List.any_cons,ih,h.1]
theorem KV.repl {kvs:List (κ×V)}{vs:List (κ×Value)}(r:KV kvs vs)(k:κ){y:V}{u:Value}(ry:t9 y u) :
  KV (kvs.map fun kv=>if kv.1=k then (kv.1,y) else kv) (vs.map fun kv=>if kv.1=k then (kv.1,u) else kv):=by
 unfold KV at r ⊢
 induction r with
 | nil=>exact .nil
 | @cons p q ps qs h t ih =>
  rw [List.map_cons,List.map_cons]
  refine .cons ?_ ih
  obtain ⟨h1,h2⟩:=h
  by_cases e:p.1=k
  ·rw [if_pos e,if_pos (h1.symm.trans e)];exact ⟨h1,ry⟩
  ·rw [if_neg e,if_neg (fun z=>e (h1.trans z))];exact ⟨h1,h2⟩
theorem KV.put {kvs:List (κ×V)}{vs:List (κ×Value)}(r:KV kvs vs)(k:κ){y:V}{u:Value}(ry:t9 y u):KV (aj8 kvs k y) (stored vs k u):=by
 unfold aj8 stored
 rw [r.any k]
 by_cases e:(vs.any fun kv=>decide (kv.1=k))=true
 ·rw [if_pos e,if_pos e];exact r.repl k ry
 ·rw [if_neg e,if_neg e];exact Paired.snoc r ⟨rfl,ry⟩
theorem KV.length {kvs:List (κ×V)}{vs:List (κ×Value)}(r:KV kvs vs):kvs.length=vs.length:=Paired.length r
end
theorem aI3 {P:Program}{w:World}{k:Key}{u:Value}(r:t9 (kV k) u):(D8 P w).is k u=true:=by
 cases k with
 | inl i=>obtain ⟨t,e⟩:=(show ∃ t,u=Value.int i t from r);subst e;exact aH0 P w i t
 | inr x=>obtain ⟨t,e⟩:=(show ∃ t,u=Value.str x t from r);subst e;exact aG9 P w x t
theorem ax5 {P:Program}{w:World}:∀ {ks:List Key}{us:List Value},n9 (ks.map kV) us->ItemsAre (D8 P w) ks us
 | [],_,r=>by rw [List.map_nil] at r;cases r;exact .nil
 | k::ks,_,r=>by
  rw [List.map_cons] at r
  cases r with
  | cons h t=>exact .cons (aI3 h) (ax5 t)
abbrev KT (H:Hp):List (List Key×V)->List (List Key×Addr×Value)->Prop:=Paired fun p q=>p.1=q.1/\H q.2.1=some (.tup (p.1.map kV))/\t9 p.2 q.2.2
theorem KT.val {H:Hp}{kvs:List (List Key×V)}{xs:List (List Key×Addr×Value)}(r:KT H kvs xs)(k:List Key):V3 (P8 kvs k) ((atKey xs k).map (·.2)):=by
 induction r with
 | nil=>exact True.intro
 | @cons p q ps qs h t ih =>
  obtain ⟨h1,_,h2⟩:=h
  by_cases e:p.1=k
  ·have e':q.1=k:=h1.symm.trans e
   have b:atKey (q::qs) k=some q.2:=by simp [atKey,List.find?_cons,e']
   rw [Z4 e,b];exact h2
  ·have e':¬ q.1=k:=fun z=>e (h1.trans z)
   have b:atKey (q::qs) k=atKey qs k:=by simp [atKey,List.find?_cons,e']
   rw [Z5 e,b];exact ih
theorem KT.repl {H:Hp}{kvs:List (List Key×V)}{xs:List (List Key×Addr×Value)}(r:KT H kvs xs)(k:List Key){y:V}{u:Value}(ry:t9 y u) :
  KT H (kvs.map fun kv=>if kv.1=k then (kv.1,y) else kv) (xs.map (putAt k u)):=by
 induction r with
 | nil=>exact .nil
 | @cons p q ps qs h t ih =>
  rw [List.map_cons,List.map_cons]
  refine .cons ?_ ih
  obtain ⟨h1,h2,h3⟩:=h
  unfold putAt
  by_cases e:p.1=k
  ·rw [if_pos e,if_pos (h1.symm.trans e)];exact ⟨h1,h2,ry⟩
  ·rw [if_neg e,if_neg (fun z=>e (h1.trans z))];exact ⟨h1,h2,h3⟩
theorem KT.put {H:Hp}{kvs:List (List Key×V)}{xs:List (List Key×Addr×Value)}(r:KT H kvs xs)(k:List Key){b:Addr}{y:V}{u:Value}(hb:H b=some (.tup (k.map kV)))(ry:t9 y u) :
  KT H (aj8 kvs k y) (storedH xs k b u):=by
 have e:(kvs.any fun kv=>decide (kv.1=k))=(atKey xs k).isSome:=by
  rw [ao7,(r.val k).isSome_eq,Option.isSome_map]
 unfold aj8 storedH
 rw [e]
 by_cases q:(atKey xs k).isSome=true
 ·rw [if_pos q,if_pos q];exact r.repl k ry
 ·rw [if_neg q,if_neg q];exact Paired.snoc r ⟨rfl,hb,ry⟩
theorem KT.keeps {H H':Hp}{kvs:List (List Key×V)}{xs:List (List Key×Addr×Value)}(r:KT H kvs xs)(ht:∀ b ys,H b=some (.tup ys)->H' b=some (.tup ys)):KT H' kvs xs :=
 Paired.mapP r fun _ _ z=>⟨z.1,ht _ _ z.2.1,z.2.2⟩
section
variable {P:Program}{w:World}{H:Hp}{h:Heap}{a:Addr}
theorem bA4 {u:HO}(ok:HOk P w H h)(e:Rd H a u):r9 P w H h a u:=e.ok ok
theorem aJ7 {kvs:List (Key×V)}(ok:HOk P w H h)(e:Rd H a (.dK kvs)):kvs.length<=sizeLine/\(a == sysModules)=false/\∃ vs,KV kvs vs/\h.DictOf (D8 P w) a vs :=
 show r9 P w H h a (.dK kvs) from bA4 ok e
theorem bR9 {kvs:List (Key×V)}(ok:HOk P w H h)(e:H a=some (.dK kvs)):kvs.length<=sizeLine/\(a == sysModules)=false/\∃ vs,KV kvs vs/\h.DictOf (D8 P w) a vs:=aJ7 ok (.inl e)
theorem as2 {ks:List Key}(ok:HOk P w H h)(e:H a=some (.tup (ks.map kV))):(tupleKind (D8 P w)).is h ks a:=by
 obtain ⟨_,its,r,o,h1,h2,n,h3⟩:=(show r9 P w H h a (.tup (ks.map kV)) from ok a _ e)
 exact ⟨o,its.toArray,n,h1,h2,h3,by simpa using ax5 r⟩
theorem aJ6 {kvs:List (List Key×V)}(ok:HOk P w H h)(e:Rd H a (.dT kvs)):kvs.length<=sizeLine/\(a == sysModules)=false /\
  ∃ xs,KT H kvs xs/\h.DictOfH (tupleKind (D8 P w)) a xs:=by
 obtain ⟨z,y,xs,r,o,es,ep,h1,h2,h3,h4,h5⟩:=(show r9 P w H h a (.dT kvs) from bA4 ok e)
 refine ⟨z,y,xs,r,o,es,ep,h1,h2,h3,h4,fun x hx=>?_,h5⟩
 have all:∀ {l:List (List Key×V)}{m:List (List Key×Addr×Value)},KT H l m->∀ x∈m,(tupleKind (D8 P w)).is h x.1 x.2.1:=by
  intro l m q
  induction q with
  | nil=>intro x hx;exact nomatch hx
  | @cons p q ps qs hq t ih =>
   intro x hx
   rcases List.mem_cons.mp hx with e | hx
   ·subst e
    exact as2 ok (by rw [<-hq.1];exact hq.2.1)
   ·exact ih x hx
 exact all r x hx
theorem bR8 {kvs:List (List Key×V)}(ok:HOk P w H h)(e:H a=some (.dT kvs)):kvs.length<=sizeLine/\(a == sysModules)=false /\
  ∃ xs,KT H kvs xs/\h.DictOfH (tupleKind (D8 P w)) a xs:=aJ6 ok (.inl e)
end
def an2 (H:Hp)(a:Addr)(y:V)(r:Option V):Prop :=
 (∃ kvs k,Rd H a (.dK kvs)/\y=kV k/\r=P8 kvs k)\/∃ kvs k b,Rd H a (.dT kvs)/\y=.ref b/\H b=some (.tup (k.map kV))/\r=P8 kvs k
def bb4 (H:Hp)(a:Addr)(y v:V)(H':Hp):Prop :=
 (∃ kvs k,H a=some (.dK kvs)/\y=kV k/\kvs.length < sizeLine/\H'=upd H a (.dK (aj8 kvs k v))) \/
 ∃ kvs k b,H a=some (.dT kvs)/\y=.ref b/\H b=some (.tup (k.map kV))/\kvs.length < sizeLine/\H'=upd H a (.dT (aj8 kvs k v))
theorem an2.t {H:Hp}{a b:Addr}{kvs:List (List Key×V)}{k:List Key}(e:H a=some (.dT kvs))(eb:H b=some (.tup (k.map kV))):an2 H a (.ref b) (P8 kvs k):=.inr ⟨kvs,k,b,.inl e,rfl,eb,rfl⟩
theorem bb4.t {H:Hp}{a b:Addr}{kvs:List (List Key×V)}{k:List Key}{v:V}(e:H a=some (.dT kvs))(eb:H b=some (.tup (k.map kV)))(hl:kvs.length < sizeLine) :
  bb4 H a (.ref b) v (upd H a (.dT (aj8 kvs k v))):=.inr ⟨kvs,k,b,e,rfl,eb,hl,rfl⟩
section
variable {X:Cx}{pins:List (Addr×Obj)}{σ:St}{H:Hp}{s:Shared}{a:Addr}{y v:V}{u r:Value}{o:Option V}{A:Around}{E:Value->Shared->Prop}
theorem Inv.big (I:Inv X pins σ H s):sysModules < s.heap.objs.size:=by
 have h:mainGlobals < s.heap.objs.size:=(I.mod.glob.keeps I.bk).lt
 exact Nat.lt_trans (by decide) h
theorem ba7 {Q:Value->Shared->Prop}(hu:A.units+1 < cLine)(I:Inv X pins σ H s)(g:an2 H a y (some v))(ry:t9 y u)(h:∀ w' s',Inv X pins σ H s'->t9 v w'->Q w' s') :
  wpAny (model X.prog X.w) A (getItem (.ref a) u) Q E s:=by
 rcases g with ⟨kvs,k,e,ey,l⟩ | ⟨kvs,k,b,e,ey,eb,l⟩
 ·subst ey
  obtain ⟨z,hd,vs,rel,dd⟩:=aJ7 I.hok e
  obtain ⟨w',hw,rw'⟩:=V3.some_of (v:=v) (o:=valueAt vs k) (by rw [l];exact rel.val k)
  exact wpAny_getItem_of (aI3 ry) dd.mapOf hw (h w' _ (I.tok _) rw')
 ·subst ey
  cases (show u=Value.ref b from ry)
  obtain ⟨z,hd,xs,rel,dd⟩:=aJ6 I.hok e
  obtain ⟨w',hw,rw'⟩:=V3.some_of (v:=v) (o:=(atKey xs k).map (·.2)) (by rw [l];exact rel.val k)
  obtain ⟨p,hp,hp2⟩:=Option.map_eq_some_iff.mp hw
  refine wpAny_getItem_heap (tupleKind_room_in1 hu) (as2 I.hok eb) dd hp ?_
  rw [hp2]
  exact h w' _ (I.tok _) rw'
theorem bV2 {Q:Value->Shared->Prop}(hu:A.units+1 < cLine)(I:Inv X pins σ H s)(g:an2 H a y o)(ry:t9 y u)(h:∀ s',Inv X pins σ H s'->Q (.bool o.isSome) s') :
  wpAny (model X.prog X.w) A (compareOp .In u (.ref a)) Q E s:=by
 rcases g with ⟨kvs,k,e,ey,l⟩ | ⟨kvs,k,b,e,ey,eb,l⟩
 ·subst ey
  obtain ⟨z,hd,vs,rel,dd⟩:=aJ7 I.hok e
  refine wpAny_in_of (aI3 ry) hd dd.mapOf ?_
  rw [<-(rel.val k).isSome_eq,<-l]
  exact h _ (I.tok _)
 ·subst ey
  cases (show u=Value.ref b from ry)
  obtain ⟨z,hd,xs,rel,dd⟩:=aJ6 I.hok e
  refine wpAny_in_heap (tupleKind_room_in1 hu) (as2 I.hok eb) hd dd ?_
  have q:=(rel.val k).isSome_eq
  rw [Option.isSome_map] at q
  rw [<-q,<-l]
  exact h _ (I.tok _)
theorem by1 {Q:Value->Shared->Prop}(hu:A.units+1 < cLine)(I:Inv X pins σ H s)(g:an2 H a y o)(ry:t9 y u)(h:∀ s',Inv X pins σ H s'->Q (.bool (!o.isSome)) s') :
  wpAny (model X.prog X.w) A (compareOp .NotIn u (.ref a)) Q E s:=by
 rcases g with ⟨kvs,k,e,ey,l⟩ | ⟨kvs,k,b,e,ey,eb,l⟩
 ·subst ey
  obtain ⟨z,hd,vs,rel,dd⟩:=aJ7 I.hok e
  refine wpAny_notIn_of (aI3 ry) hd dd.mapOf ?_
  rw [<-(rel.val k).isSome_eq,<-l]
  exact h _ (I.tok _)
 ·subst ey
  cases (show u=Value.ref b from ry)
  obtain ⟨z,hd,xs,rel,dd⟩:=aJ6 I.hok e
  refine wpAny_notIn_heap (tupleKind_room_in1 hu) (as2 I.hok eb) hd dd ?_
  have q:=(rel.val k).isSome_eq
  rw [Option.isSome_map] at q
  rw [<-q,<-l]
  exact h _ (I.tok _)
theorem aU4 {h':Heap}{t':Nat}{ob:HO}(I:Inv X pins σ H s)(mu:Mut (H a))(hs:Heap.SameBut a s.heap h')(he:∃ q,h'.get? a=some q)(new:r9 X.prog X.w (upd H a ob) h' a ob) :
  Inv X pins σ (upd H a ob) { s with heap:=h',toks:=t' } :=
 I.write (x:=a) (e:=a) mu (.inl rfl) (fun b q hb z=>(hs.2 b hb).trans z) he new
theorem bL3 {P:Program}{w:World}{H':Hp}{h':Heap}{kvs:List (Key×V)}{vs:List (Key×Value)}(z:kvs.length<=sizeLine)(hd:(a == sysModules)=false)(rel:KV kvs vs)(dd:h'.DictOf (D8 P w) a vs) :
  r9 P w H' h' a (.dK kvs):=⟨z,hd,vs,rel,dd⟩
theorem ba6 {H':Hp}{Q:Unit->Shared->Prop}(hu:A.units+1 < cLine)(I:Inv X pins σ H s)(g:bb4 H a y v H')(ry:t9 y u)(rv:t9 v r)(h:∀ s',Inv X pins σ H' s'->Q () s') :
  wpAny (model X.prog X.w) A (setItem (.ref a) u r) Q E s:=by
 rcases g with ⟨kvs,k,e,ey,l,eH⟩ | ⟨kvs,k,b,e,ey,eb,l,eH⟩
 ·subst ey eH
  obtain ⟨z,hd,vs,rel,dd⟩:=bR9 I.hok e
  have hz:vs.length<=sizeLine:=by rw [<-rel.length];exact z
  have hl:(aj8 kvs k v).length<=sizeLine:=by have:=al9 kvs k v;omega
  refine wpAny_setItem_pairs (hsz:=hz) (aI3 ry) dd fun h' dd' hs=>h _ ?_
  have he:∃ q,h'.get? a=some q:=let ⟨q,_,_,hq,_⟩:=dd';⟨q,hq⟩
  exact aU4 I (by rw [e];exact True.intro) hs he (bL3 hl hd (rel.put k rv) dd')
 ·subst ey eH
  cases (show u=Value.ref b from ry)
  obtain ⟨z,hd,xs,rel,dd⟩:=bR8 I.hok e
  have hz:xs.length<=sizeLine:=by rw [<-Paired.length rel];exact z
  have hl:(aj8 kvs k v).length<=sizeLine:=by have:=al9 kvs k v;omega
  refine wpAny_setItem_heap (hsz:=hz) (tupleKind_room_in1 hu) (as2 I.hok eb) dd fun h' dd' hs=>h _ ?_
  obtain ⟨q,es,ep,hq,h2,h3,h4,_,h5⟩:=dd'
  refine aU4 I (by rw [e];exact True.intro) hs ⟨q,hq⟩ ⟨hl,hd,_,(rel.put k eb rv).keeps fun c ys ec=>?_,q,es,ep,hq,h2,h3,h4,h5⟩
  rw [d6 (bA9 ec e (fun z=>nomatch z))]
  exact ec
end
def bS4 (i:Expr):Prop:=∀ ov iv,subscripted i false ov iv=operate [ov,iv] (getItem ov iv)
theorem bq1 {prog:Program}{w:World}{A:Around}{E:Value->Shared->Prop}{s:Shared}{env:Env}{value slice:Expr}{pos:Pos}{T id:String}{Q:Value->Shared->Prop}
  (hl:typeLookup (.type T) "__getitem__"=pure (some (.builtin id))) (hs:bS4 slice)
  (h:wpAny (model prog w) A (eval value env) (fun o s₁=>wpAny (model prog w) A (eval slice env) (fun i s₂=>s₂.TypeIs o T/\wpAny (model prog w) A (getItem o i) Q E s₂) E s₁) E s) :
  wpAny (model prog w) A (eval (.Subscript value slice pos) env) Q E s:=by
 refine Subscript_ (wpAny_mono h (fun o s₁ h₁=>wpAny_mono h₁ (fun i s₂ h₂=>?_) fun _ _ x=>x) fun _ _ x=>x)
 obtain ⟨hT,h₂⟩:=h₂
 unfold subscriptTail
 refine wpAny_bind ?_
 rw [getitemInPython_of_ne hT.not_modules]
 refine wpAny_bind (wpAny_specialOf hT hl ?_)
 have fin:wpAny (model prog w) A (subscripted slice false o i) (fun r s₃=>wpAny (model prog w) A (letTemporaryGo value o r >>= fun _=>pure r) Q E s₃) E s₂:=by
  rw [hs o i]
  exact wpAny_operating (wpAny_mono h₂ (fun r s₃ h₃=>wpAny_bind (wpAny_letTemporaryGo (wpAny_pure h₃))) fun _ _ x=>x)
 first
  | exact wpAny_pure (wpAny_bind fin)
  | exact wpAny_bind (wpAny_pure (wpAny_bind fin))
  | exact wpAny_bind fin
theorem aJ8 {X:Cx}{pins:List (Addr×Obj)}{σ:St}{H:Hp}{s:Shared}{a:Addr}{y:V}{o:Option V}(I:Inv X pins σ H s)(g:an2 H a y o):s.TypeIs (.ref a) "dict":=by
 rcases g with ⟨kvs,k,e,_,_⟩ | ⟨kvs,k,b,e,_,_,_⟩
 ·obtain ⟨_,_,vs,_,dd⟩:=aJ7 I.hok e
  exact dd.typeIs
 ·obtain ⟨_,_,xs,_,dd⟩:=aJ6 I.hok e
  exact dd.typeIs
def bN1 (td ty:TE):TE:=fun σ H Q=>td σ H fun x H1=>ty σ H1 fun y H2=>∃ a v,x=.ref a/\an2 H2 a y (some v)/\Q v H2
def bT4 (ty td:TE):TE:=fun σ H Q=>ty σ H fun y H1=>td σ H1 fun x H2=>∃ a o,x=.ref a/\an2 H2 a y o/\Q (.bl o.isSome) H2
def bq0 (ty td:TE):TE:=fun σ H Q=>ty σ H fun y H1=>td σ H1 fun x H2=>∃ a o,x=.ref a/\an2 H2 a y o/\Q (.bl (!o.isSome)) H2
def bO9 (td ty tv:TE):TS:=fun D σ H=>tv σ H fun v H1=>td σ H1 fun x H2=>ty σ H2 fun y H3=>∃ a H4,x=.ref a/\bb4 H3 a y v H4/\D.nx σ H4
section
variable {X:Cx}{o i e value:Expr}{pos pos' tpos:Pos}{td ty tv:TE}
theorem bs4 (hu:X.A.units+1 < cLine)(ho:PE X o td)(hi:PE X i ty)(hs:bS4 i):PE X (.Subscript o i pos) (bN1 td ty):=by
 intro pins s σ H Q I h
 refine bq1 PySem.F.slot_dict_getitem.lookup hs (thn (ho pins s σ H _ I h) fun u s1 ⟨x,H1,I1,rx,q1⟩=>thn (hi pins s1 σ H1 _ I1 q1) fun iv s2 ⟨y,H2,I2,ry,a,v,ex,g,q2⟩=>?_)
 subst ex
 obtain rfl:u=Value.ref a:=rx
 exact ⟨aJ8 I2 g,ba7 hu I2 g ry fun w' s3 I3 rw'=>⟨v,H2,I3,rw',q2⟩⟩
theorem bF6 (hu:X.A.units+1 < cLine)(hi:PE X i ty)(ho:PE X o td):PC X .In i o (bT4 ty td):=by
 intro pins s σ H Q I h
 refine thn (hi pins s σ H _ I h) fun iv s1 ⟨y,H1,I1,ry,q1⟩=>thn (ho pins s1 σ H1 _ I1 q1) fun u s2 ⟨x,H2,I2,rx,a,ov,ex,g,q2⟩=>?_
 subst ex
 obtain rfl:u=Value.ref a:=rx
 exact bV2 hu I2 g ry fun s3 I3=>⟨.bl ov.isSome,H2,I3,rfl,q2⟩
theorem aX5 (hu:X.A.units+1 < cLine)(hi:PE X i ty)(ho:PE X o td):PC X .NotIn i o (bq0 ty td):=by
 intro pins s σ H Q I h
 refine thn (hi pins s σ H _ I h) fun iv s1 ⟨y,H1,I1,ry,q1⟩=>thn (ho pins s1 σ H1 _ I1 q1) fun u s2 ⟨x,H2,I2,rx,a,ov,ex,g,q2⟩=>?_
 subst ex
 obtain rfl:u=Value.ref a:=rx
 exact by1 hu I2 g ry fun s3 I3=>⟨.bl (!ov.isSome),H2,I3,rfl,q2⟩
theorem aS0 (hu:X.A.units+1 < cLine)(ho:PE X o td)(hi:PE X i ty)(hv:PE X value tv)(hs:swapsWith value (some (.Subscript o i pos')) pos.line X.env=pure false) :
  PS X (.Assign [.Subscript o i pos'] value pos) (bO9 td ty tv):=by
 intro pins s σ H D I h
 refine wpAny_Assign_Subscript (thn (hv pins s σ H _ I h) fun r s1 ⟨v,H1,I1,rv,q1⟩=>thn (ho pins s1 σ H1 _ I1 q1) fun u s2 ⟨x,H2,I2,rx,q2⟩=>thn (hi pins s2 σ H2 _ I2 q2) fun iv s3 ⟨y,H3,I3,ry,a,H4,ex,g,q3⟩=>?_) hs
 subst ex
 obtain rfl:u=Value.ref a:=rx
 exact ba6 hu I3 g ry rv fun s4 I4=>⟨σ,H4,I4,q3⟩
end
theorem bn7 {P:Program}{w:World}{H:Hp}(h:Heap)(hb:sysModules < h.objs.size):r9 P w H (h.push { cls:=.type "dict",data:=.dict #[] }) h.objs.size (.dT []) :=
 ⟨Nat.zero_le _,beq_eq_false_iff_ne.mpr (Ne.symm (Nat.ne_of_lt hb)),[],.nil,_,#[],0,Heap.get?_push_size _ rfl,⟨rfl,rfl,rfl⟩,rfl,rfl,List.nodup_nil⟩
def bC6:TE:=fun _ H Q=>∀ p,H p=none->Q (.ref p) (upd H p (.dT []))
section
variable {X:Cx}{pos:Pos}
theorem aG1:PE X (.Dict [] [] pos) bC6:=fun pins s σ H Q I h =>
 wpAny_Dict_empty ⟨.ref s.heap.objs.size,_,I.laid (a:=s.heap.objs.size) (o:=.dT []) (t':=s.toks) (fun _ _ q=>Heap.get?_push_of_some _ q) (Nat.le_refl _) (bn7 s.heap I.big),rfl,h _ (I.hok.fresh (Nat.le_refl _))⟩
end
end L2
namespace L2
open PySem PySem.Spec PyProof.Rows
end L2
namespace L2
open PySem PySem.Spec PyProof.Rows
section
variable {X:Cx}{pins:List (Addr×Obj)}{σ:St}{H:Hp}{s:Shared}{h':Heap}
theorem Inv.turnedL {t':Nat}{ch:List Addr}(I:Inv X pins σ H s)(k:∀ b o,b∉ch->s.heap.get? b=some o->h'.get? b=some o)(hf:∀ b∈ch,Y9 X pins H b):Inv X pins σ H { s with heap:=h',toks:=t' }:=by
 have nit:∀ b u,H b=some u->b∉ch:=fun b u e z=>by
  have q:=(hf b z).1
  rw [q] at e;cases e
 refine I.step (g':=s.gens) (d':=s.drawn) (ch:=ch) (fun b hb=>⟨(hf b hb).2.2.2.1,(hf b hb).2.1,(hf b hb).2.2.2.2.1,(hf b hb).2.2.2.2.2⟩) (fun b o _ _ hc e _=>k b o hc e) (fun b o _ _ hc e _=>⟨o.slots,k b o hc e⟩)
  (fun _ _ _ _ n=>n) (fun b o hc e=>⟨o,k b o hc e⟩) (fun _ _ e=>e) (fun _ _ _ e=>e) (fun b ps e=>⟨#[],by rw [e];simp⟩) (fun m hm=>?_) (fun b u e=>?_) I.bare
 ·obtain ⟨o,es,ep,ho,r⟩:=hm
  exact ⟨o,es,ep,k _ o (fun z=>(hf _ z).2.1 rfl) ho,r⟩
 ·refine (I.hok b u e).stay (fun c v hc q=>k c v ?_ q) (fun _ q=>q) fun _ _ q=>q
  rcases hc with z | z
  ·rw [z];exact nit b u e
  ·exact nit c _ z
theorem Inv.turnedNew {t':Nat}{ch:List Addr}{T:Addr}{ob:HO}(I:Inv X pins σ H s)(k:∀ b o,b∉ch->s.heap.get? b=some o->h'.get? b=some o)(hf:∀ b∈ch,Y9 X pins H b)(hT:s.heap.objs.size<=T)
  (new:r9 X.prog X.w (upd H T ob) h' T ob):Inv X pins σ (upd H T ob) { s with heap:=h',toks:=t' }:=by
 have hn:H T=none:=I.hok.fresh hT
 have nit:∀ b u,H b=some u->b∉ch:=fun b u e z=>by
  have q:=(hf b z).1
  rw [q] at e;cases e
 refine I.step (g':=s.gens) (d':=s.drawn) (ch:=ch) (fun b hb=>⟨(hf b hb).2.2.2.1,(hf b hb).2.1,(hf b hb).2.2.2.2.1,(hf b hb).2.2.2.2.2⟩) (fun b o _ _ hc e _=>k b o hc e) (fun b o _ _ hc e _=>⟨o.slots,k b o hc e⟩)
  (fun b o _ e n=>?_) (fun b o hc e=>⟨o,k b o hc e⟩) (fun b xs e=>?_) (fun b o u e=>?_) (fun b ps e=>⟨#[],?_⟩) (fun m hm=>?_) (fun b u e=>?_) I.bare
 ·rw [d6 (Nat.ne_of_lt (Nat.lt_of_lt_of_le (Heap.lt_size e) hT))];exact n
 ·rw [d6 (i0 e hn)];exact e
 ·rw [d6 (i0 e hn)];exact e
 ·rw [d6 (i0 e hn),e];simp
 ·obtain ⟨o,es,ep,ho,r⟩:=hm
  exact ⟨o,es,ep,k _ o (fun z=>(hf _ z).2.1 rfl) ho,r⟩
 ·by_cases hb:b=T
  ·subst hb
   rw [c7] at e
   cases e
   exact new
  ·rw [d6 hb] at e
   refine (I.hok b u e).stay (fun c v hc q=>k c v ?_ q) (fun c q=>by rw [d6 (i0 q hn)];exact q) fun c xs q=>by rw [d6 (i0 q hn)];exact q
   rcases hc with z | z
   ·rw [z];exact nit b u e
   ·exact nit c _ z
end
section
variable {X:Cx}
theorem bi1 {tg:Expr}{pins:List (Addr×Obj)}{σ:St}{H:Hp}{s:Shared}{R:It->Hp->Prop}{J:It}{tn:Nat->Heap->Prop}{tk:Nat}(I:Inv X pins σ H s)(o:Obj)
  (T:bo8 X.prog X.w X.K tg J [s.heap.objs.size] s.heap.objs.size tn) (st:tn 0 (s.heap.push o)) (q:R J H):PIE X pins σ tg R (.ref s.heap.objs.size) { s with heap:=s.heap.push o,toks:=tk }:=by
 refine ⟨s.heap.objs.size,[s.heap.objs.size],tn,J,H,rfl,I.kept fun b ob e=>Heap.get?_push_of_some _ e,T,st,fun b hb=>?_,q⟩
 have e:b=s.heap.objs.size:=by simpa using hb
 subst e
 exact I.fpOk (Nat.le_refl _) (I.hok.fresh (Nat.le_refl _))
end
def Its (x:Str):It:=⟨fun i _=>i < x.cps.size,fun i H v H'=>H'=H/\∃ c,x.cps[i]?=some c/\v=.str ⟨#[c]⟩,fun i _=>x.cps.size<=i⟩
theorem aE6 {P:Program}{w:World}{K:W.Frag}{tg:Expr}(it:Addr)(x:Str)(t:Tok)(ty:String)(hty:ty="str_ascii_iterator"\/ty="str_iterator") :
  bo8 P w K tg (Its x) [it] it (fun i h=>h.IsStrIter it ty x t i) where
 mem:=by simp
 obj:=fun i h st b hb=>by
  have e:b=it:=by simpa using hb
  subst e
  obtain ⟨o,e,c,d⟩:=st
  exact ⟨o,e,fun v z=>by rw [d] at z;cases z⟩
 keep:=fun i h h' st k=>let ⟨o,ho,r⟩:=st;⟨o,k it (by simp) o ho,r⟩
 item:=by
  intro X hP hw hK hc i pins s σ H E I hf st hg
  subst hP hw hK
  obtain ⟨f0,f1,f2,f3,f4,f5⟩:=hf it (by simp)
  have W:Walks X.prog X.w X.A it [it] [it] x.cps.size (SignAt x) (fun i h=>h.IsStrIter it ty x t i):=by
   rcases hty with e | e
   ·rw [e];exact Walks.strAscii (I.ok.hd hc) it x t
   ·rw [e];exact Walks.strWide (I.ok.hd hc) it x t
  have hno:["enumerate","zip","dict_itemiterator","dict_reverseitemiterator","odict_iterator","itertools.zip_longest","itertools.pairwise"].contains ty=false:=by
   rcases hty with e | e
   ·rw [e];decide
   ·rw [e];decide
  refine W.item i s _ _ hg st fun v h' tk hv st' kk=>?_
  obtain ⟨c,u,hcx,rfl⟩:=hv
  have I1:Inv X pins σ H { s with heap:=h',toks:=tk }:=I.turned (fun b o hb e=>kk b o (by simpa using hb) e) f0 f1 f3 f4 f5
  obtain ⟨oi,e,cc,dd⟩:=id st'
  exact ⟨_,rfl,bm6 (s:={ s with heap:=h',toks:=tk }) e cc dd hno ⟨.str ⟨#[c]⟩,H,I1,⟨u,rfl⟩,⟨rfl,c,hcx,rfl⟩,st',fun b hb=>(hf b hb).1⟩⟩
 done:=by
  intro X hP hw hK hc i pins s σ H E I hf st hg
  subst hP hw hK
  obtain ⟨f0,f1,f2,f3,f4,f5⟩:=hf it (by simp)
  have hx:x.cps[i]?=none:=Array.getElem?_eq_none hg
  rcases hty with e | e
  ·rw [e] at st
   exact wpAny_pyNext_ascii_end (I.ok.hd hc) st hx fun h' eb=>⟨rfl,I.turned (t':=s.toks) (fun b o hb e=>eb b o hb e) f0 f1 f3 f4 f5⟩
  ·rw [e] at st
   exact wpAny_pyNext_wide_end (I.ok.hd hc) st hx fun h' eb=>⟨rfl,I.turned (t':=s.toks) (fun b o hb e=>eb b o hb e) f0 f1 f3 f4 f5⟩
 self:=fun A i s Q E st h=>by
  rcases hty with e | e
  ·rw [e] at st;exact wpAny_pyIter_striter_ascii st h
  ·rw [e] at st;exact wpAny_pyIter_striter_wide st h
def bU9 (te:TE):TI:=fun σ H R=>te σ H fun v H1=>∃ x,v=.str x/\R (Its x) H1
theorem aM8 {X:Cx}{tg e:Expr}{te:TE}(he:PE X e te):PI X tg e (bU9 te):=by
 intro pins s σ H R I h
 refine thn (he pins s σ H _ I h) fun v s1 ⟨y,H1,I1,r1,x,ex,q⟩=>?_
 subst ex
 obtain ⟨t,rfl⟩:=r1
 cases ha:x.cps.all (· < 128)
 ·exact wpAny_pyIter_wide ha (bi1 (tk:=s1.toks) I1 _ (aE6 _ x t "str_iterator" (.inr rfl)) ⟨_,Heap.get?_push_size _ rfl,rfl,rfl⟩ q)
 ·exact wpAny_pyIter_ascii ha (bi1 (tk:=s1.toks) I1 _ (aE6 _ x t "str_ascii_iterator" (.inl rfl)) ⟨_,Heap.get?_push_size _ rfl,rfl,rfl⟩ q)
theorem ba9:bootBuiltins "zip"=some (.type "zip"):=by decide +kernel
end L2
section 
namespace Bits
open PySem PyProof.Rows
end Bits
end 
section 
namespace TL
open PySem PySem.Builtin PySem.Builtin.Str PySem.StrLaws
abbrev tl (x:Str):List Nat:=x.cps.toList
theorem aN7 (x:Str):x.length=(tl x).length:=by simp [tl,Str.length]
theorem bK9 {x y:Str}(h:tl x=tl y):x=y:=Str.ext' (Array.toList_inj.mp h)
theorem U1 (x y:Str):tl (x++y)=tl x++tl y:=by
 show (x++y).cps.toList=_
 rw [Str.cps_append,Array.toList_append]
theorem ak9 (s:String):tl (Str.ofString s)=s.toList.map Char.toNat:=PyProof.Rows.signs_ofString s
def ax3 (S:List Nat):List (List Nat)->List Nat
 | []=>[]
 | [p]=>p
 | p::q::r=>p++(S++ax3 S (q::r))
theorem aQ1 (y:Str):∀ parts:List Str,tl (Str.join y parts)=ax3 (tl y) (parts.map tl)
 | []=>rfl
 | [_]=>rfl
 | x::z::r=>by
  show tl (x++y++Str.join y (z::r))=tl x++(tl y++ax3 (tl y) ((z::r).map tl))
  rw [U1,U1,aQ1 y (z::r),List.append_assoc]
theorem bw3 (y:Str)(parts:List Str):Txt.join y parts=Str.join y parts:=glued_eq_join y parts
def bQ3 (n:Nat):List Nat:=(Nat.toDigits 10 n).map Char.toNat
theorem aK8 (n:Nat):tl (Str.ofString (toString ((n:Nat):Int)))=bQ3 n:=W.KIN.signs_num n
theorem bk0 {n k:Nat}(hk:0 < k)(h:n < 10 ^ k):(bQ3 n).length<=k:=by
 have z:=PyProof.Rows.toString_length_le (v:=(n:Int)) (by omega) hk (by
  have e:((10:Int) ^ k)=((10 ^ k:Nat):Int):=by
   first
    | exact (Int.natCast_pow 10 k).symm
    | simp
  rw [e]
  first | exact Int.ofNat_lt.mpr h | omega)
 rw [aN7,aK8] at z
 exact z
end TL
end 
namespace L2
open PySem PySem.Spec PyProof.Rows
theorem V5:∀ {ys:List Str}{us:List Value},n9 (ys.map V.str) us->StrsAre us ys
 | [],_,.nil=>.nil
 | y::ys,_,.cons r t=>by
  obtain ⟨k,rfl⟩:=r
  exact .cons y k (V5 t)
section
variable {X:Cx}
theorem bv4:MtR X "str.join" (fun x xs H Q=>∃ a p,∃ ys:List Str,x=.str a/\xs=[.ref p]/\(SqL X.K H p (ys.map V.str)\/SqT X.K H p (ys.map V.str)) /\
  (ys.map (·.length)).sum+ys.length*a.length<=16777216/\Q (.str (Txt.join a ys)) H):=by
 intro pins s σ H x xs v us Q I rx rs h
 obtain ⟨a,p,ys,rfl,rfl,hp,hz,h⟩:=h
 obtain ⟨t,rfl⟩:=rx
 cases rs with
 | cons r1 rs =>
  cases rs
  cases r1
  rcases hp with hp | hp
  ·obtain ⟨its,r,⟨o,n,ho,hc,_,hd⟩,_⟩:=I.list hp
   exact PyProof.Rows.join_list (items:=its.toArray) ⟨o,ho,hc,n,hd⟩ (by rw [List.toList_toArray];exact V5 r) hz fun t' k=>⟨.str _,H,I.tok k,⟨t',rfl⟩,h⟩
  ·obtain ⟨its,r,ht,_⟩:=I.tuple hp
   exact PyProof.Rows.join_tuple (items:=its.toArray) ht (by rw [List.toList_toArray];exact V5 r) hz fun t' k=>⟨.str _,H,I.tok k,⟨t',rfl⟩,h⟩
end
section
variable {X:Cx}{o e:Expr}{to te:TE}
def tM1 (r:V->List V->Hp->VK->Prop)(to te:TE):TE:=fun σ H Q=>to σ H fun x H1=>(∃ a,x=.str a)/\te σ H1 fun y H2=>r x [y] H2 Q
theorem bP1 {id:String}{name:Str}{apos pos:Pos}{r:V->List V->Hp->VK->Prop}(slot:Slot "str" name id)(ty:typeOf (.builtin id)=pure (.type "method_descriptor"))(rule:MtR X id r)(ho:PE X o to)(he:PE X e te)
  (hs:starEach [e] X.env=[(false,eval e X.env)]:=by rfl) (hbase:attributeBase o name X.env (eval o X.env)=eval o X.env:=by rfl) (hline:(apos.endLine == pos.line)=true:=by rfl) :
  PE X (.Call (.Attribute o name apos) [e] [] pos) (tM1 r to te):=by
 intro pins s σ H Q I h
 refine PySem.Call_method1 hbase hs hline (thn (ho pins s σ H _ I h) fun v s1 ⟨x,H1,I1,r1,q1⟩=>?_)
 obtain ⟨⟨a,rfl⟩,q1⟩:=q1
 obtain ⟨t,rfl⟩:=_root_.id r1
 refine ⟨"str",_,F.plainAttrs_str,slot,ty,typeIs_str _ _ _,(fun _ e=>nomatch e),Calls.callWith_builtin rfl (Calls.evalArgs_plain (Calls.spliced_cons ?_))⟩
 exact thn (he pins s1 σ H1 _ I1 q1) fun u s2 ⟨y,H2,I2,r2,q2⟩=>Calls.spliced_nil (rule pins s2 σ H2 _ [y] _ [u] Q I2 r1 (.cons r2 .nil) q2)
theorem bs3 {apos pos:Pos}(ho:PE X o to)(he:PE X e te)(hs:starEach [e] X.env=[(false,eval e X.env)]:=by rfl)(hbase:attributeBase o "join" X.env (eval o X.env)=eval o X.env:=by rfl)(hline:(apos.endLine == pos.line)=true:=by rfl) :
  PE X (.Call (.Attribute o "join" apos) [e] [] pos) (tM1 (fun x xs H Q=>∃ a p,∃ ys:List Str,x=.str a/\xs=[.ref p]/\(SqL X.K H p (ys.map V.str)\/SqT X.K H p (ys.map V.str)) /\
   (ys.map (·.length)).sum+ys.length*a.length<=16777216/\Q (.str (Txt.join a ys)) H) to te) :=
 bP1 F.slot_str_join F.type_str_join bv4 ho he hs hbase hline
end
end L2
namespace L2
open PySem PySem.Spec PyProof.Rows
end L2
namespace L2
open PySem PySem.Spec PyProof.Rows
def J4 (s:Stmt)(j:Nat):Stmt:=match s with
 | .ClassDef _ _ _ body _ _ _ _ _ _ _=>body.getD j (.Pass ⟨0,0,0,0⟩)
 | _=>.Pass ⟨0,0,0,0⟩
def F4 (s:Stmt):Arguments:=match s with
 | .FunctionDef _ a _ _ _ _ _ _ _ _=>a
 | _=>{ posonlyargs:=[],args:=[],vararg:=none,kwonlyargs:=[],kw_defaults:=[],kwarg:=none,defaults:=[] }
def C1 (s:Stmt):List Stmt:=match s with
 | .FunctionDef _ _ b _ _ _ _ _ _ _=>b
 | _=>[]
def d7 (s:Stmt):Scope:=match s with
 | .FunctionDef _ _ _ _ _ _ sc _ _ _=>sc
 | _=>{ kind:=.function,names:=[],isGenerator:=false,isCoroutine:=false }
structure Fun (K:W.Frag)(x qual:Str)(st:Stmt)(f:Addr)(fd:FuncData):Prop where
 ex:∃ (oc:Value) (od:Option Addr) (kV doc pm:Value) (an:Option Addr) (cdv ct:Value) (osl:Array (Option Value)),
  fd=W.fnOf x qual (F4 st) (C1 st) (d7 st) .none kV doc pm an cdv ct/\K.lookup f=some ⟨oc,od,.func fd,osl⟩/\W.codeIn K cdv qual=true
 kp:W.keepIn K (.ref f)=true
section
variable {P:Program}{w:World}{K:W.Frag}{mg:Str->Option Value}{base:Heap}
theorem Fun.binds {x qual:Str}{st:Stmt}{f:Addr}{fd:FuncData}{ps:List Str}(F:Fun K x qual st f fd)
  (h:∀ (kV doc pm:Value) (an:Option Addr) (cdv ct:Value) (us:List Value),us.length=ps.length->bindArgs (W.fnOf x qual (F4 st) (C1 st) (d7 st) .none kV doc pm an cdv ct) ⟨us,[]⟩=pure (ps.zip us)):P7 K fd ps []:=by
 obtain ⟨oc,od,kV,doc,pm,an,cdv,ct,osl,rfl,lk,hcd⟩:=F.ex
 exact .all (h kV doc pm an cdv ct)
theorem aO4 {x qual:Str}{st:Stmt}{f:Addr}{oc:Value}{od an:Option Addr}{osl:Array (Option Value)}{kV doc pm cdv ct:Value}(l:K.lookup f=some ⟨oc,od,.func (W.fnOf x qual (F4 st) (C1 st) (d7 st) .none kV doc pm an cdv ct),osl⟩)
  (c:W.codeIn K cdv qual=true) (k:W.keepIn K (.ref f)=true):Fun K x qual st f (W.fnOf x qual (F4 st) (C1 st) (d7 st) .none kV doc pm an cdv ct):=⟨⟨oc,od,kV,doc,pm,an,cdv,ct,osl,rfl,l,c⟩,k⟩
end
theorem aT2 {A:Around}{k:Nat}(hr:C2 k A):A.units+1 < cLine:=Nat.lt_of_le_of_lt (Nat.add_le_add_left (by decide:1<=64) _) hr.units
section
variable {X:Cx}
theorem pv (i:Nat){x:Str}{pos:Pos}(hN:X.N[i]?=some x:=by rfl)(hv:Vis X.env.scope x:=by first | exact Or.inl rfl | exact Or.inr (Or.inl rfl) | exact Or.inr (Or.inr rfl))(hd:(x == ("__debug__" : Str))=false:=by decide)
  (hcd:(x == ("__classdict__" : Str))=false:=by decide):PE X (.Name x pos) (J9 i):=bi2 hN hv hd hcd
end
theorem aj9 {A B:Prop}(h:B):if false=true then A else B:=by
 rw [if_neg Bool.false_ne_true]
 exact h
theorem ag8 {A B:Prop}(h:A):if true=true then A else B:=by
 rw [if_pos rfl]
 exact h
def j6 (H H':Hp):Prop:=∀ b o,H b=some o->H' b=some o
theorem j6.refl (H:Hp):j6 H H:=fun _ _ h=>h
theorem j6.trans {H H1 H2:Hp}(a:j6 H H1)(b:j6 H1 H2):j6 H H2:=fun c o h=>b c o (a c o h)
theorem j6.free {H H':Hp}(e:j6 H H'){l:Addr}(h:H' l=Option.none):H l=Option.none:=by
 cases q:H l with
 | none=>rfl
 | some o =>
  rw [e l o q] at h
  cases h
theorem j6.seq {K:W.Frag}{H H':Hp}{a:Addr}{xs:List V}(e:j6 H H')(h:SqL K H a xs):SqL K H' a xs:=by
 rcases h with (h | ⟨o,h⟩) | h
 ·exact .inl (.inl (e _ _ h))
 ·exact .inl (.inr ⟨o,e _ _ h⟩)
 ·exact .inr h
end L2
set_option maxHeartbeats 2000000
namespace L2
open PySem PySem.Spec PyProof.Rows
open PySem.W (WData Codec OpenSpec Well WellAll ReadsW ReadsAllW)
mutual
/-- x stands for the datum d,lists and tuples all the way -/
inductive Dw (K:W.Frag)(H:Hp):V->WData->Prop
 | non:Dw K H .non .none
 | bl (b:Bool):Dw K H (.bl b) (.bool b)
 | int (i:Int):Dw K H (.int i) (.int i)
 | str (x:Str):Dw K H (.str x) (.str x)
 | byt (b:Array UInt8):Dw K H (.byt b) (.bytes b.toList)
 | lst {a:Addr}{xs:List V}{ds:List WData}:SqL K H a xs->DwAll K H xs ds->Dw K H (.ref a) (.list ds)
 | tup {a:Addr}{xs:List V}{ds:List WData}:SqT K H a xs->DwAll K H xs ds->Dw K H (.ref a) (.tuple ds)
inductive DwAll (K:W.Frag)(H:Hp):List V->List WData->Prop
 | nil:DwAll K H [] []
 | cons {v:V}{vs:List V}{d:WData}{ds:List WData}:Dw K H v d->DwAll K H vs ds->DwAll K H (v::vs) (d::ds)
end
theorem aT9 {K:W.Frag}{H:Hp}:∀ ns:List Int,DwAll K H (ns.map V.int) (ns.map WData.int)
 | []=>.nil
 | n::r=>.cons (.int n) (aT9 r)
theorem aT1 {K:W.Frag}{H:Hp}:∀ (ns:List Int) (xs:List V),DwAll K H xs (ns.map WData.int)->xs=ns.map V.int
 | [],xs,h=>by
  cases h
  rfl
 | n::r,xs,h=>by
  cases h with
  | cons h1 h2 =>
   cases h1
   rw [aT1 r _ h2]<;>rfl
section
variable {P:Program}{w:World}{K:W.Frag}{H:Hp}{h:Heap}{R:W.WRecords}{cl:Str->Option Addr}
theorem bD2 {a:Addr}{xs:List V}(hok:HOk P w H h)(KX:K.In h)(q:SqL K H a xs):∃ (its:List Value) (o:Obj) (n:Nat),n9 xs its/\h.get? a=some o/\o.cls=.type "list"/\o.data=.seq its.toArray n:=by
 rcases q with q | ⟨o,its,n,e,hc,_,hd,_,hv⟩
 ·obtain ⟨_,its,n,hv,e⟩:=(show r9 P w H h a (.lst xs) from q.ok hok)
  exact ⟨its,_,n,hv,e,rfl,rfl⟩
 ·exact ⟨its.toList,o,n,hv,KX _ _ e,hc,by simp [hd]⟩
theorem bD1 {a:Addr}{xs:List V}(hok:HOk P w H h)(KX:K.In h)(q:SqT K H a xs):∃ (its:List Value) (o:Obj) (n:Nat),n9 xs its/\h.get? a=some o/\o.cls=.type "tuple"/\o.data=.seq its.toArray n:=by
 rcases q with q | ⟨o,its,n,e,hc,hd,_,hv⟩
 ·obtain ⟨_,its,hv,o,e,hc,n,hd⟩:=(show r9 P w H h a (.tup xs) from q.ok hok)
  exact ⟨its,o,n,hv,e,hc,hd⟩
 ·exact ⟨its.toList,o,n,hv,KX _ _ e,hc,by simp [hd]⟩
mutual
theorem Dw.reads (hok:HOk P w H h)(KX:K.In h):∀ (d:WData) (v:V) (u:Value),Dw K H v d->t9 v u->∃ as,ReadsW R cl h u d as
 | .none,_,_,x,r=>by
  cases x
  cases r
  exact ⟨_,ReadsW.none⟩
 | .bool b,_,_,x,r=>by
  cases x
  cases r
  exact ⟨_,ReadsW.bool b⟩
 | .int i,_,_,x,r=>by
  cases x
  obtain ⟨t,rfl⟩:=r
  exact ⟨_,ReadsW.int i t⟩
 | .str s,_,_,x,r=>by
  cases x
  obtain ⟨t,rfl⟩:=r
  exact ⟨_,ReadsW.str s t⟩
 | .bytes b,_,_,x,r=>by
  cases x
  obtain ⟨t,rfl⟩:=r
  exact ⟨_,ReadsW.bytes _ t⟩
 | .list ds,_,_,x,r=>by
  cases x with
  | lst hs ha =>
   cases r
   obtain ⟨its,o,n,rv,ho,hc,hd⟩:=bD2 hok KX hs
   obtain ⟨as,hr⟩:=Dw.readsAll hok KX ds _ its ha rv
   exact ⟨_,ReadsW.list ho hc hd hr⟩
 | .tuple ds,_,_,x,r=>by
  cases x with
  | tup hs ha =>
   cases r
   obtain ⟨its,o,n,rv,ho,hc,hd⟩:=bD1 hok KX hs
   obtain ⟨as,hr⟩:=Dw.readsAll hok KX ds _ its ha rv
   exact ⟨_,ReadsW.tuple ho hc hd hr⟩
 | .float _,_,_,x,_=>by cases x
 | .dict _,_,_,x,_=>by cases x
 | .bytearray _,_,_,x,_=>by cases x
 | .set _,_,_,x,_=>by cases x
 | .frozenset _,_,_,x,_=>by cases x
 | .obj _ _,_,_,x,_=>by cases x
theorem Dw.readsAll (hok:HOk P w H h)(KX:K.In h):∀ (ds:List WData) (vs:List V) (us:List Value),DwAll K H vs ds->n9 vs us->∃ as,ReadsAllW R cl h us ds as
 | [],_,_,x,r=>by
  cases x
  cases r
  exact ⟨_,ReadsAllW.nil⟩
 | d::ds,_,_,x,r=>by
  cases x with
  | cons h1 h2 =>
   cases r with
   | cons r1 r2 =>
    obtain ⟨as,q1⟩:=Dw.reads hok KX d _ _ h1 r1
    obtain ⟨bs,q2⟩:=Dw.readsAll hok KX ds _ _ h2 r2
    exact ⟨_,ReadsAllW.cons q1 q2⟩
end
end
mutual
/-- data that a codec tells -/
def plW:WData->Bool
 | .none=>true
 | .bool _=>true
 | .int _=>true
 | .str _=>true
 | .bytes _=>true
 | .list xs=>plWs xs
 | .tuple xs=>plWs xs
 | _=>false
def plWs:List WData->Bool
 | []=>true
 | x::r=>plW x && plWs r
end
theorem aF7 {α:Type}{f:α->WData}(h:∀ a,plW (f a)=true):∀ l:List α,plWs (l.map f)=true
 | []=>rfl
 | x::r=>by
  show (plW (f x) && plWs (r.map f))=true
  rw [h x,aF7 h r]<;>rfl
theorem aa4:∀ (c:Codec) (a:c.denote),plW (c.enc a)=true
 | .unit,_=>rfl
 | .bool,_=>rfl
 | .int _ _,_=>rfl
 | .nat _ _,_=>rfl
 | .u8,_=>rfl
 | .bytes _ _,_=>rfl
 | .text _ _ _ _,_=>rfl
 | .list _ _ c,a=>aF7 (fun x=>aa4 c x) a
 | .pair c d,a=>by
  show (plW (c.enc a.1) && (plW (d.enc a.2) && true))=true
  rw [aa4 c a.1,aa4 d a.2]<;>rfl
 | .triple c d e,a=>by
  show (plW (c.enc a.1) && (plW (d.enc a.2.1) && (plW (e.enc a.2.2) && true)))=true
  rw [aa4 c a.1,aa4 d a.2.1,aa4 e a.2.2]<;>rfl
 | .option c,none=>rfl
 | .option c,some x=>aa4 c x
theorem aw6:∀ (cs:List Codec) (a:Codec.denoteAll cs),plWs (Codec.encAll cs a)=true
 | [],_=>rfl
 | c::cs,a=>by
  show (plW (c.enc a.1) && plWs (Codec.encAll cs a.2))=true
  rw [aa4 c a.1,aw6 cs a.2]<;>rfl
theorem ad3:∀ {xs:List WData}{d:WData},d∈xs->d.weight<=WData.weightAll xs
 | [],d,h=>absurd h (by simp)
 | x::r,d,h=>by
  show d.weight<=x.weight+1+WData.weightAll r
  rcases List.mem_cons.mp h with e | m
  ·rw [e]
   omega
  ·have z:=ad3 m
   omega
def toV:Value->V
 | .none=>.non
 | .bool b=>.bl b
 | .int i _=>.int i
 | .str x _=>.str x
 | .bytes b _=>.byt b
 | .ref a=>.ref a
 | _=>.non
def OkU (A:List Addr):Value->Prop
 | .none=>True
 | .bool _=>True
 | .int _ _=>True
 | .str _ _=>True
 | .bytes _ _=>True
 | .ref a=>a∈A
 | _=>False
theorem OkU.mono {A B:List Addr}(h:∀ a∈A,a∈B):∀ {u:Value},OkU A u->OkU B u:=fun {u} x=>by
 cases u with
 | ref a=>exact h a x
 | none=>trivial
 | bool b=>trivial
 | int i t=>trivial
 | str s t=>trivial
 | bytes b t=>trivial
 | _=>exact False.elim x
theorem bh5 {A:List Addr}{u:Value}(x:OkU A u):t9 (toV u) u:=by
 cases u with
 | ref a=>rfl
 | none=>rfl
 | bool b=>rfl
 | int i t=>exact ⟨t,rfl⟩
 | str s t=>exact ⟨t,rfl⟩
 | bytes b t=>exact ⟨t,rfl⟩
 | _=>exact False.elim x
theorem U0 {A:List Addr}:∀ {vs:List Value},(∀ u∈vs,OkU A u)->n9 (vs.map toV) vs
 | [],_=>.nil
 | u::r,h=>.cons (bh5 (h u (List.mem_cons_self ..))) (U0 fun x hx=>h x (List.mem_cons_of_mem _ hx))
def Y7 (h:Heap)(A:List Addr)(a:Addr):Prop:=∃ vs:List Value,vs.length<=sizeLine/\(∀ u∈vs,OkU A u) /\
 (h.get? a=some { cls:=.type "list",data:=.seq vs.toArray }\/h.get? a=some { cls:=.type "tuple",data:=.seq vs.toArray })
theorem Y7.mono {h:Heap}{A B:List Addr}{a:Addr}(k:∀ a∈A,a∈B)(x:Y7 h A a):Y7 h B a:=by
 obtain ⟨vs,h1,h2,h3⟩:=x
 exact ⟨vs,h1,fun u hu=>(h2 u hu).mono k,h3⟩
theorem Q4 {P:Params}{h:Heap}:∀ {vs:List Value}{ds:List WData},WellAll P h vs ds->vs.length=ds.length
 | _,_,.nil=>rfl
 | _,_,.cons _ b=>by
  show _+1=_+1
  rw [Q4 b]
theorem av0 {P:Params}{h:Heap}{v:Value}{ds:List WData}(x:Well P h v (.list ds)):∃ (a:Addr) (vs:List Value),v=.ref a/\h.get? a=some { cls:=.type "list",data:=.seq vs.toArray }/\WellAll P h vs ds:=by
 cases x with
 | list ho hall=>exact ⟨_,_,rfl,ho,hall⟩
theorem ao6 {P:Params}{h:Heap}{v:Value}{ds:List WData}(x:Well P h v (.tuple ds)):∃ (a:Addr) (vs:List Value),v=.ref a/\h.get? a=some { cls:=.type "tuple",data:=.seq vs.toArray }/\WellAll P h vs ds:=by
 cases x with
 | tuple ho hall=>exact ⟨_,_,rfl,ho,hall⟩
theorem av1 {P:Params}{h:Heap}{us:List Value}{d:WData}{ds:List WData}(x:WellAll P h us (d::ds)):∃ (v:Value) (vs:List Value),us=v::vs/\Well P h v d/\WellAll P h vs ds:=by
 cases x with
 | cons a b=>exact ⟨_,_,rfl,a,b⟩
theorem aS5 {n:Nat}(h:n<=1048576):n<=sizeLine:=Nat.le_trans h (by decide)
section
variable {P:Params}{h:Heap}
mutual
theorem bo3:∀ (d:WData) (v:Value),Well P h v d->plW d=true->d.weight<=1048576->∃ A:List Addr,OkU A v/\∀ a∈A,Y7 h A a
 | .none,_,x,_,_=>by
  cases x
  exact ⟨[],trivial,fun a m=>absurd m (by simp)⟩
 | .bool b,_,x,_,_=>by
  cases x
  exact ⟨[],trivial,fun a m=>absurd m (by simp)⟩
 | .int i,_,x,_,_=>by
  cases x
  exact ⟨[],trivial,fun a m=>absurd m (by simp)⟩
 | .str s,_,x,_,_=>by
  cases x
  exact ⟨[],trivial,fun a m=>absurd m (by simp)⟩
 | .bytes b,_,x,_,_=>by
  cases x
  exact ⟨[],trivial,fun a m=>absurd m (by simp)⟩
 | .list ds,_,x,p,z=>by
  obtain ⟨a,vs,rfl,ho,hall⟩:=av0 x
  have z2:WData.weightAll ds<=1048576:=z
  obtain ⟨A,h1,h2⟩:=area_all ds _ hall p fun d hd=>Nat.le_trans (ad3 hd) z2
  have k:∀ b∈A,b∈a::A:=fun b hb=>List.mem_cons_of_mem _ hb
  refine ⟨a::A,List.mem_cons_self ..,fun b hb=>?_⟩
  rcases List.mem_cons.mp hb with e | m
  ·rw [e]
   exact ⟨vs,aS5 (by rw [Q4 hall];exact Nat.le_trans (W.length_le_weightAllW ds) z2),fun u hu=>(h1 u hu).mono k,.inl ho⟩
  ·exact (h2 b m).mono k
 | .tuple ds,_,x,p,z=>by
  obtain ⟨a,vs,rfl,ho,hall⟩:=ao6 x
  have z2:WData.weightAll ds<=1048576:=z
  obtain ⟨A,h1,h2⟩:=area_all ds _ hall p fun d hd=>Nat.le_trans (ad3 hd) z2
  have k:∀ b∈A,b∈a::A:=fun b hb=>List.mem_cons_of_mem _ hb
  refine ⟨a::A,List.mem_cons_self ..,fun b hb=>?_⟩
  rcases List.mem_cons.mp hb with e | m
  ·rw [e]
   exact ⟨vs,aS5 (by rw [Q4 hall];exact Nat.le_trans (W.length_le_weightAllW ds) z2),fun u hu=>(h1 u hu).mono k,.inr ho⟩
  ·exact (h2 b m).mono k
 | .float _,_,_,p,_=>Bool.noConfusion (show false=true from p)
 | .dict _,_,_,p,_=>Bool.noConfusion (show false=true from p)
 | .bytearray _,_,_,p,_=>Bool.noConfusion (show false=true from p)
 | .set _,_,_,p,_=>Bool.noConfusion (show false=true from p)
 | .frozenset _,_,_,p,_=>Bool.noConfusion (show false=true from p)
 | .obj _ _,_,_,p,_=>Bool.noConfusion (show false=true from p)
theorem area_all:∀ (ds:List WData) (vs:List Value),WellAll P h vs ds->plWs ds=true->(∀ d∈ds,d.weight<=1048576)->∃ A:List Addr,(∀ u∈vs,OkU A u)/\∀ a∈A,Y7 h A a
 | [],_,x,_,_=>by
  cases x
  exact ⟨[],fun u m=>absurd m (by simp),fun a m=>absurd m (by simp)⟩
 | d::ds,_,x,p,z=>by
  obtain ⟨v,vs,rfl,x1,x2⟩:=av1 x
  have q:plW d=true/\plWs ds=true:=Bool.and_eq_true_iff.mp p
  obtain ⟨A,a1,a2⟩:=bo3 d v x1 q.1 (z d (List.mem_cons_self ..))
  obtain ⟨B,b1,b2⟩:=area_all ds vs x2 q.2 fun e he=>z e (List.mem_cons_of_mem _ he)
  have kA:∀ b∈A,b∈A++B:=fun b hb=>List.mem_append.mpr (.inl hb)
  have kB:∀ b∈B,b∈A++B:=fun b hb=>List.mem_append.mpr (.inr hb)
  refine ⟨A++B,fun u hu=>?_,fun b hb=>?_⟩
  ·rcases List.mem_cons.mp hu with e | m
   ·rw [e]
    exact a1.mono kA
   ·exact (b1 u m).mono kB
  ·rcases List.mem_append.mp hb with m | m
   ·exact (a2 b m).mono kA
   ·exact (b2 b m).mono kB
end
end
def bx0 (o:Obj):Option HO:=match o.data with
 | .seq vs _=>if (o.cls == Value.type "list")=true then some (.frz o (.lst (vs.toList.map toV))) else some (.frz o (.tup (vs.toList.map toV)))
 | _=>none
def Y1 (K:W.Frag)(h:Heap)(A:List Addr):Hp:=fun b=>if b∈A then (if (K.lookup b).isNone=true then (h.get? b).bind bx0 else none) else none
def bB6 (H:Hp):Prop:=∀ b,H b=none\/∃ o u,H b=some (.frz o u)
theorem aI9 (vs:List Value):bx0 { cls:=.type "list",data:=.seq vs.toArray }=some (.frz { cls:=.type "list",data:=.seq vs.toArray } (.lst (vs.map toV))):=by
 show (if (Value.type "list" == Value.type "list")=true then some (HO.frz { cls:=.type "list",data:=.seq vs.toArray } (.lst (vs.toArray.toList.map toV))) else some (HO.frz { cls:=.type "list",data:=.seq vs.toArray } (.tup (vs.toArray.toList.map toV))))=_
 rw [if_pos (beq_self_eq_true _)]
theorem aI8 (vs:List Value):bx0 { cls:=.type "tuple",data:=.seq vs.toArray }=some (.frz { cls:=.type "tuple",data:=.seq vs.toArray } (.tup (vs.map toV))):=by
 show (if (Value.type "tuple" == Value.type "list")=true then some (HO.frz { cls:=.type "tuple",data:=.seq vs.toArray } (.lst (vs.toArray.toList.map toV))) else some (HO.frz { cls:=.type "tuple",data:=.seq vs.toArray } (.tup (vs.toArray.toList.map toV))))=_
 rw [if_neg (by decide)]
section
variable {P:Program}{w:World}{K:W.Frag}{h:Heap}{A:List Addr}
theorem ao4 {b:Addr}{o:Obj}(hb:b∈A)(hk:K.lookup b=none)(e:h.get? b=some o):Y1 K h A b=bx0 o:=by
 unfold Y1
 rw [if_pos hb,hk,if_pos (show (none:Option Obj).isNone=true from rfl),e]<;>rfl
theorem bv1 {b:Addr}{u:HO}(q:Y1 K h A b=some u):b∈A/\K.lookup b=none:=by
 unfold Y1 at q
 by_cases hb:b∈A
 ·rw [if_pos hb] at q
  cases hk:K.lookup b with
  | none=>exact ⟨hb,rfl⟩
  | some o =>
   rw [hk,if_neg (by simp)] at q
   cases q
 ·rw [if_neg hb] at q
  cases q
theorem ao3 (ar : ∀ a ∈ A, Y7 h A a) {b : Addr} {u : HO} (q : Y1 K h A b = some u) : K.lookup b = none ∧ ∃ vs : List Value, vs.length ≤ sizeLine ∧ (∀ u ∈ vs, OkU A u) ∧
    ((h.get? b = some { cls := .type "list", data := .seq vs.toArray } ∧ u = .frz { cls := .type "list", data := .seq vs.toArray } (.lst (vs.map toV))) ∨
     (h.get? b = some { cls := .type "tuple", data := .seq vs.toArray } ∧ u = .frz { cls := .type "tuple", data := .seq vs.toArray } (.tup (vs.map toV)))) := by
  obtain ⟨hb, hk⟩ := bv1 q
  obtain ⟨vs, h1, h2, h3⟩ := ar b hb
  refine ⟨hk, vs, h1, h2, ?_⟩
  rcases h3 with e | e
  · rw [ao4 hb hk e, aI9] at q
    exact .inl ⟨e, (Option.some.inj q).symm⟩
  · rw [ao4 hb hk e, aI8] at q
    exact .inr ⟨e, (Option.some.inj q).symm⟩
theorem bb2 (ar:∀ a∈A,Y7 h A a):bB6 (Y1 K h A):=fun b=>by
 cases q:Y1 K h A b with
 | none=>exact .inl rfl
 | some u =>
  obtain ⟨_,vs,_,_,⟨_,e⟩ | ⟨_,e⟩⟩:=ao3 ar q
  ·exact .inr ⟨_,_,by rw [e]⟩
  ·exact .inr ⟨_,_,by rw [e]⟩
theorem by8 (ar:∀ a∈A,Y7 h A a):HOk P w (Y1 K h A) h:=fun b u q=>by
 obtain ⟨_,vs,h1,h2,⟨e,rfl⟩ | ⟨e,rfl⟩⟩:=ao3 ar q
 ·exact ⟨e,by rw [List.length_map];exact h1,vs,_,U0 h2,e⟩
 ·exact ⟨e,by rw [List.length_map];exact h1,vs,U0 h2,_,e,rfl,_,rfl⟩
theorem an9 {c c':Value}{vs us:List Value}(e:(some { cls:=c,data:=.seq vs.toArray }:Option Obj)=some { cls:=c',data:=.seq us.toArray }):c=c'/\vs=us:=by
 have e1:=Option.some.inj e
 have e2:c=c':=congrArg Obj.cls e1
 have e3:Data.seq vs.toArray=Data.seq us.toArray:=congrArg Obj.data e1
 injection e3 with e4
 refine ⟨e2,?_⟩
 have e5:=congrArg Array.toList e4
 simpa using e5
theorem bV6 (KX:K.In h)(ar:∀ a∈A,Y7 h A a){a:Addr}{vs:List Value}(ha:a∈A)(e:h.get? a=some { cls:=.type "list",data:=.seq vs.toArray }):(∀ u∈vs,OkU A u)/\SqL K (Y1 K h A) a (vs.map toV):=by
 obtain ⟨us,h1,h2,h3⟩:=ar a ha
 have hu:us=vs:=by
  rcases h3 with q | q
  ·rw [e] at q
   exact (an9 q).2.symm
  ·rw [e] at q
   exact absurd (Value.type.inj (an9 q).1) (by decide)
 subst hu
 refine ⟨h2,?_⟩
 cases hk:K.lookup a with
 | none=>exact .inl (.inr ⟨_,by rw [ao4 ha hk e,aI9]⟩)
 | some o =>
  have e2:=KX a o hk
  rw [e] at e2
  obtain rfl:=Option.some.inj e2
  exact .inr ⟨_,us.toArray,_,hk,rfl,rfl,rfl,by rw [List.size_toArray];exact h1,by simpa using U0 h2⟩
theorem bV5 (KX:K.In h)(ar:∀ a∈A,Y7 h A a){a:Addr}{vs:List Value}(ha:a∈A)(e:h.get? a=some { cls:=.type "tuple",data:=.seq vs.toArray }):(∀ u∈vs,OkU A u)/\SqT K (Y1 K h A) a (vs.map toV):=by
 obtain ⟨us,h1,h2,h3⟩:=ar a ha
 have hu:us=vs:=by
  rcases h3 with q | q
  ·rw [e] at q
   exact absurd (Value.type.inj (an9 q).1) (by decide)
  ·rw [e] at q
   exact (an9 q).2.symm
 subst hu
 refine ⟨h2,?_⟩
 cases hk:K.lookup a with
 | none=>exact .inl (.inr ⟨_,by rw [ao4 ha hk e,aI8]⟩)
 | some o =>
  have e2:=KX a o hk
  rw [e] at e2
  obtain rfl:=Option.some.inj e2
  exact .inr ⟨_,us.toArray,_,hk,rfl,rfl,by rw [List.size_toArray];exact h1,by simpa using U0 h2⟩
mutual
theorem bL2 {Pm:Params}(KX:K.In h)(ar:∀ a∈A,Y7 h A a):∀ (d:WData) (v:Value),Well Pm h v d->plW d=true->OkU A v->Dw K (Y1 K h A) (toV v) d
 | .none,_,x,_,_=>by
  cases x
  exact .non
 | .bool b,_,x,_,_=>by
  cases x
  exact .bl b
 | .int i,_,x,_,_=>by
  cases x
  exact .int i
 | .str s,_,x,_,_=>by
  cases x
  exact .str s
 | .bytes b,_,x,_,_=>by
  cases x
  have z:=Dw.byt (K:=K) (H:=Y1 K h A) b.toArray
  exact z
 | .list ds,_,x,p,hu=>by
  obtain ⟨a,vs,rfl,ho,hall⟩:=av0 x
  obtain ⟨h2,hs⟩:=bV6 KX ar hu ho
  exact .lst hs (dw_all KX ar ds _ hall p h2)
 | .tuple ds,_,x,p,hu=>by
  obtain ⟨a,vs,rfl,ho,hall⟩:=ao6 x
  obtain ⟨h2,hs⟩:=bV5 KX ar hu ho
  exact .tup hs (dw_all KX ar ds _ hall p h2)
 | .float _,_,_,p,_=>Bool.noConfusion (show false=true from p)
 | .dict _,_,_,p,_=>Bool.noConfusion (show false=true from p)
 | .bytearray _,_,_,p,_=>Bool.noConfusion (show false=true from p)
 | .set _,_,_,p,_=>Bool.noConfusion (show false=true from p)
 | .frozenset _,_,_,p,_=>Bool.noConfusion (show false=true from p)
 | .obj _ _,_,_,p,_=>Bool.noConfusion (show false=true from p)
theorem dw_all {Pm:Params}(KX:K.In h)(ar:∀ a∈A,Y7 h A a):∀ (ds:List WData) (vs:List Value),WellAll Pm h vs ds->plWs ds=true->(∀ u∈vs,OkU A u)->DwAll K (Y1 K h A) (vs.map toV) ds
 | [],_,x,_,_=>by
  cases x
  exact .nil
 | d::ds,_,x,p,hu=>by
  obtain ⟨v,vs,rfl,x1,x2⟩:=av1 x
  have q:plW d=true/\plWs ds=true:=Bool.and_eq_true_iff.mp p
  exact .cons (bL2 KX ar d v x1 q.1 (hu _ (List.mem_cons_self ..))) (dw_all KX ar ds vs x2 q.2 fun u m=>hu u (List.mem_cons_of_mem _ m))
end
end
theorem ar9 {ds:List WData}(h:WData.layableAll ds=true):∀ d∈ds,d.weight<=1048576:=fun d hd =>
 (W.layableW_iff.mp (List.all_eq_true.mp h d hd)).2.2
theorem as8:∀ (cs:List Codec) (a:Codec.denoteAll cs),(Codec.encAll cs a).length=cs.length
 | [],_=>rfl
 | c::cs,a=>by
  show (Codec.encAll cs a.2).length+1=cs.length+1
  rw [as8 cs a.2]
end L2
set_option maxHeartbeats 2000000
namespace L2
open PySem PySem.Spec PyProof.Rows
section
variable {M:Model}{A:Around}{E:Value->Shared->Prop}{s:Shared}
def bS3 (h:Heap)(x:Addr)(vs:Array Value):Prop:=vs[1]?=some .none\/∃ T oT ts,vs[1]?=some (.ref T)/\T≠x/\h.get? T=some oT/\oT.data=.fields ts/\3 < ts.size
structure at7 (fs:List Addr)(x:Addr)(oe:Obj)(old:Value)(h h':Heap):Prop where
 obj:∃ oe' vs' T oT ts,h'.get? x=some oe'/\oe'.cls=oe.cls/\oe'.dict=oe.dict/\oe'.data=.fields vs'/\vs'[1]?=some (.ref T)/\T≠x/\h'.get? T=some oT/\oT.data=.fields ts/\3 < ts.size/\(h.get? T=none\/old=.ref T)
 keep:∀ b o,b≠x->old≠.ref b->b∉fs->h.get? b=some o->h'.get? b=some o
 slot:∀ b o,b≠x->old≠.ref b->h.get? b=some o->∃ sl,h'.get? b=some { o with slots:=sl }
 there:∀ b o,h.get? b=some o->∃ o',h'.get? b=some o'
theorem bn2 {base:Heap}{env:Env}{outer:List Env}{L x:Addr}{oe:Obj}{vs:Array Value}{head:Value}{hadNext:Bool}{Q:Unit->Shared->Prop}
  (hfr:A.frames=some (env::outer)) (hl:s.heap.FunFrames base (env::outer)) (hf:env.frame=some L)
  (he:s.heap.get? x=some oe) (hd:oe.data=.fields vs) (hsz:1 < vs.size)
  (h:∀ h',at7 ((env::outer).filterMap (·.frame)) x oe .none s.heap h'->Q () { s with heap:=h' }) :
  wpAny M A (do let a ← frameOf env;let pl ← entryPlaceOf L hadNext;let b ← EntryCells.newEntry head a .none (rawInt L) .none pl;setField (.ref x) 1 b) (fun _ s'=>wpAny M A (setFlight (.ref x) none) Q E s') E s:=by
 have hene:x∉(env::outer).filterMap (·.frame):=fun hm=>by
  obtain ⟨_,o,ho,hnf⟩:=hl.mem hm
  rw [he] at ho;injection ho with ho;subst ho;exact hnf vs hd
 refine wpAny_bind (wpAny_frameOf_fun hfr hl hf fun h₁ hs₁=>?_)
 refine wpAny_bind (wpAny_entryPlaceOf fun pl hpl=>?_)
 unfold EntryCells.newEntry newFields
 refine wpAny_bind (wpAny_newObj_type ?_ (hpl.sizeOk5 _ _ _ _ _))
 have he₁:h₁.get? x=some oe:=(hs₁.2.1 x hene).trans he
 have he₂:=Heap.get?_push_of_some (h:=h₁) { cls:=.type "traceback",dict:=none,data:=.fields ([head,.ref L,.none,rawInt L,.none]++(if pl.isEmpty then List.replicate 6 Value.none else pl)).toArray } he₁
 refine wpAny_setField he₂ hd hsz ?_
 have hTe:h₁.objs.size≠x:=Nat.ne_of_gt (Heap.lt_size he₁)
 have hd₃:=Obj.data_mapFields hd (·.setIfInBounds 1 (Value.ref h₁.objs.size))
 have he₃:=Heap.get?_update_self (Obj.mapFields (·.setIfInBounds 1 (Value.ref h₁.objs.size))) he₂ (Obj.isFreed_of_fields hd₃)
 have hT₃:=(Heap.get?_update_other (h₁.push { cls:=.type "traceback",dict:=none,data:=.fields ([head,.ref L,.none,rawInt L,.none]++(if pl.isEmpty then List.replicate 6 Value.none else pl)).toArray })
  (Obj.mapFields (·.setIfInBounds 1 (Value.ref h₁.objs.size))) (Ne.symm hTe)).trans (Heap.get?_push_size h₁ rfl)
 unfold setFlight
 refine wpAny_bind (wpAny_field he₃ hd₃ (x:=.ref h₁.objs.size) (by simp [hsz]) ?_)
 rw [if_pos (show (Value.ref h₁.objs.size != Value.none)=true from by simp)]
 refine wpAny_setField hT₃ rfl (by simp only [List.size_toArray,List.length_append,List.length_cons,List.length_nil]<;>omega) (h _ ?_)
 have keep:∀ b o,b≠x->h₁.get? b=some o ->
   (((h₁.push { cls:=.type "traceback",dict:=none,data:=.fields ([head,.ref L,.none,rawInt L,.none]++(if pl.isEmpty then List.replicate 6 Value.none else pl)).toArray }).update x (Obj.mapFields (·.setIfInBounds 1 (Value.ref h₁.objs.size)))).update h₁.objs.size
    (Obj.mapFields (·.setIfInBounds 3 ((none:Option Addr).elim Value.none fun f=>rawInt f)))).get? b=some o:=fun b o hbe hb=>by
  have hbT:h₁.objs.size≠b:=Nat.ne_of_gt (Heap.lt_size hb)
  rw [Heap.get?_update_other _ _ hbT,Heap.get?_update_other _ _ (Ne.symm hbe)]
  exact Heap.get?_push_of_some _ hb
 have hx':=(Heap.get?_update_other ((h₁.push { cls:=.type "traceback",dict:=none,data:=.fields ([head,.ref L,.none,rawInt L,.none]++(if pl.isEmpty then List.replicate 6 Value.none else pl)).toArray }).update x (Obj.mapFields (·.setIfInBounds 1 (Value.ref h₁.objs.size))))
  (Obj.mapFields (·.setIfInBounds 3 ((none:Option Addr).elim Value.none fun f=>rawInt f))) hTe).trans he₃
 refine ⟨⟨_,_,h₁.objs.size,_,_,hx',Obj.cls_mapFields _ _,?_,hd₃,by simp [hsz],hTe,Heap.get?_update_self _ hT₃ (Obj.isFreed_of_fields (Obj.data_mapFields rfl _)),Obj.data_mapFields rfl _,?_,.inl ?_⟩,fun b o hb _ hbf e=>keep b o hb ((hs₁.2.1 b hbf).trans e),fun b o hb _ e=>?_,fun b o e=>?_⟩
 ·obtain ⟨c,d,dt,sl⟩:=oe;cases dt<;>rfl
 ·rw [Array.size_setIfInBounds];simp only [List.size_toArray,List.length_append,List.length_cons,List.length_nil];omega
 ·exact Heap.get?_none_of_le (by rw [hs₁.1];exact Nat.le_refl _)
 ·obtain ⟨sl,hs⟩:=hs₁.2.2 b o e
  exact ⟨sl,keep b _ hb hs⟩
 ·by_cases hb:b=x
  ·subst hb;exact ⟨_,hx'⟩
  ·obtain ⟨sl,hs⟩:=hs₁.2.2 b o e
   exact ⟨_,keep b _ hb hs⟩
theorem aT6 {x T:Addr}{oe oT:Obj}{vs ts:Array Value}{fs:List Addr}{Q:Unit->Shared->Prop}(he:s.heap.get? x=some oe)(hd:oe.data=.fields vs)(h1:vs[1]?=some (.ref T))(hTe:T≠x)
  (hT:s.heap.get? T=some oT) (hdT:oT.data=.fields ts) (hsz:3 < ts.size) (h:∀ h',at7 fs x oe (.ref T) s.heap h'->Q () { s with heap:=h' }):wpAny M A (setFlight (.ref x) none) Q E s:=by
 unfold setFlight
 refine wpAny_bind (wpAny_field he hd h1 ?_)
 rw [if_pos (show (Value.ref T != Value.none)=true from by simp)]
 have other:∀ b,b≠T->(s.heap.update T (Obj.mapFields (·.setIfInBounds 3 ((none:Option Addr).elim Value.none fun f=>rawInt f)))).get? b=s.heap.get? b :=
  fun b hb=>Heap.get?_update_other _ _ (Ne.symm hb)
 have self':=Heap.get?_update_self (Obj.mapFields (·.setIfInBounds 3 ((none:Option Addr).elim Value.none fun f=>rawInt f))) hT (Obj.isFreed_of_fields (Obj.data_mapFields hdT _))
 refine wpAny_setField hT hdT hsz (h _ ⟨⟨oe,vs,T,_,_,(other x (Ne.symm hTe)).trans he,rfl,rfl,hd,h1,hTe,self',Obj.data_mapFields hdT _,by rw [Array.size_setIfInBounds];exact hsz,.inr rfl⟩,fun b o hb ho _ e=>(other b fun q=>ho (by rw [q])).trans e,fun b o hb ho e=>⟨o.slots,(other b fun q=>ho (by rw [q])).trans e⟩,fun b o e=>?_⟩)
 by_cases hb:b=T
 ·subst hb;exact ⟨_,self'⟩
 ·exact ⟨o,(other b hb).trans e⟩
theorem bQ4 {base:Heap}{env:Env}{outer:List Env}{L x:Addr}{oe:Obj}{vs:Array Value}{Q:Unit->Shared->Prop}
  (hfr:A.frames=some (env::outer)) (hl:s.heap.FunFrames base (env::outer)) (hf:env.frame=some L)
  (he:s.heap.get? x=some oe) (hd:oe.data=.fields vs) (h1:bS3 s.heap x vs)
  (h:∀ h' old,vs[1]?=some old->at7 ((env::outer).filterMap (·.frame)) x oe old s.heap h'->Q () { s with heap:=h' }) :
  wpAny M A (noteFrame (.ref x) env) (fun _ s'=>wpAny M A (setFlight (.ref x) none) Q E s') E s:=by
 rcases h1 with h1 | ⟨T,oT,ts,h1,hTe,hT,hdT,hsz⟩
 ·unfold noteFrame
  simp only [hf]
  refine wpAny_bind (wpAny_field he hd h1 ?_)
  rw [if_neg (by decide)]
  exact bn2 hfr hl hf he hd (Array.getElem?_eq_some_iff.mp h1).1 fun h' n=>h h' _ h1 n
 ·by_cases hr:(ts[3]'hsz == rawInt L)=true
  ·unfold noteFrame
   simp only [hf]
   refine wpAny_bind (wpAny_field he hd h1 ?_)
   rw [if_pos (show (Value.ref T != Value.none)=true from by simp)]
   refine wpAny_bind (wpAny_field hT hdT (Array.getElem?_eq_getElem hsz) ?_)
   rw [if_pos hr]
   exact wpAny_pure (aT6 he hd h1 hTe hT hdT hsz fun h' n=>h h' _ h1 n)
  ·unfold noteFrame
   simp only [hf]
   refine wpAny_bind (wpAny_field he hd h1 ?_)
   rw [if_pos (show (Value.ref T != Value.none)=true from by simp)]
   refine wpAny_bind (wpAny_field hT hdT (Array.getElem?_eq_getElem hsz) ?_)
   rw [if_neg hr]
   refine wpAny_bind (wpAny_setField hT hdT hsz ?_)
   have other:∀ b,b≠T->(s.heap.update T (Obj.mapFields (·.setIfInBounds 3 Value.none))).get? b=s.heap.get? b:=fun b hb=>Heap.get?_update_other _ _ (Ne.symm hb)
   have self':=Heap.get?_update_self (Obj.mapFields (·.setIfInBounds 3 Value.none)) hT (Obj.isFreed_of_fields (Obj.data_mapFields hdT _))
   have noRecord:∀ b o,s.heap.get? b=some o->(∀ vs,o.data≠.fields vs)->b≠T:=fun b o hb hnf q=>by
    rw [q,hT] at hb;injection hb with hb;subst hb;exact hnf ts hdT
   have back:∀ b o,s.heap.get? b=some o->∃ o',(s.heap.update T (Obj.mapFields (·.setIfInBounds 3 Value.none))).get? b=some o':=fun b o e=>by
    by_cases hb:b=T
    ·subst hb;exact ⟨_,self'⟩
    ·exact ⟨o,(other b hb).trans e⟩
   refine bn2 (s:={ s with heap:=s.heap.update T (Obj.mapFields (·.setIfInBounds 3 Value.none)) }) hfr (hl.of_keeps fun b o hb hnf=>⟨o,(other b (noRecord b o hb hnf)).trans hb,rfl⟩) hf ((other x (Ne.symm hTe)).trans he) hd (Array.getElem?_eq_some_iff.mp h1).1 fun h' n=>h h' (.ref T) h1 ?_
   obtain ⟨n1,n2,n3,n4⟩:=n
   refine ⟨?_,fun b o hb ho hbf e=>n2 b o hb (by intro q;cases q) hbf ((other b fun q=>ho (by rw [q])).trans e),fun b o hb ho e=>n3 b o hb (by intro q;cases q) ((other b fun q=>ho (by rw [q])).trans e),fun b o e=>let ⟨o',e'⟩:=back b o e;n4 b o' e'⟩
   obtain ⟨oe',vs',T',oT',ts',q1,q2,q3,q4,q5,q6,q7,q8,q9,q10⟩:=n1
   refine ⟨oe',vs',T',oT',ts',q1,q2,q3,q4,q5,q6,q7,q8,q9,?_⟩
   rcases q10 with q | q
   ·refine .inl ?_
    cases z:s.heap.get? T' with
    | none=>rfl
    | some o =>
     obtain ⟨o',e'⟩:=back _ _ z
     have q':(s.heap.update T (Obj.mapFields (·.setIfInBounds 3 Value.none))).get? T'=none:=q
     rw [e'] at q';cases q'
   ·cases q
end
theorem r9.gone {P:Program}{w:World}{H:Hp}{h:Heap}{a:Addr}{o:HO}(x:r9 P w H h a o)(e:h.get? a=none):False:=by
 induction o with
 | lst xs=>obtain ⟨_,_,_,_,q⟩:=x;rw [e] at q;cases q
 | tup xs=>obtain ⟨_,_,_,_,q,_⟩:=x;rw [e] at q;cases q
 | dK kvs=>obtain ⟨_,_,_,_,_,_,_,q,_⟩:=x;rw [e] at q;cases q
 | dT kvs=>obtain ⟨_,_,_,_,_,_,_,q,_⟩:=x;rw [e] at q;cases q
 | set S n=>obtain ⟨_,_,_,_,q,_⟩:=x;rw [e] at q;cases q
 | ins C dx fs=>obtain ⟨_,_,_,q,_⟩:=x;rw [e] at q;cases q
 | own y=>obtain ⟨_,q⟩:=x;rw [e] at q;cases q
 | xd fs=>obtain ⟨_,⟨_,_,_,q,_⟩,_⟩:=x;rw [e] at q;cases q
 | rng lo hi=>obtain ⟨_,_,_,q⟩:=x;rw [e] at q;cases q
 | frz ob u ih=>exact ih x.2
 | tbl ps=>have q:h.get? a=some _:=x;rw [e] at q;cases q
 | met f y=>have q:h.get? a=some _:=x;rw [e] at q;cases q
 | ext φ=>obtain ⟨_,⟨_,q⟩,_⟩:=x;rw [e] at q;cases q
structure Fly (h0:Heap)(H:Hp)(h:Heap)(x:Addr)(cls:Value)(od:Option Addr):Prop where
 free:H x=none
 new:h0.get? x=none
 obj:∃ oe vs,h.get? x=some oe/\oe.cls=cls/\oe.dict=od/\oe.data=.fields vs/\(vs[1]?=some .none\/∃ T oT ts,vs[1]?=some (.ref T)/\T≠x/\h.get? T=some oT/\oT.data=.fields ts/\3 < ts.size/\H T=none/\h0.get? T=none)
theorem Fly.mono {h0 h1:Heap}{H:Hp}{h:Heap}{x:Addr}{cls:Value}{od:Option Addr}(f:Fly h0 H h x cls od)(k:∀ b,h0.get? b=none->h1.get? b=none):Fly h1 H h x cls od :=
 ⟨f.free,k _ f.new,let ⟨oe,vs,a,b,c,d,e⟩:=f.obj;⟨oe,vs,a,b,c,d,e.imp id fun ⟨T,oT,ts,q1,q2,q3,q4,q5,q6,q7⟩=>⟨T,oT,ts,q1,q2,q3,q4,q5,q6,k _ q7⟩⟩⟩
def cxX (P:Program)(w:World):CXT:=fun outer H s E e s'=>∃ x cls od H',e=.ref x/\s'.os=s.os/\AllBare s'.gens/\Un (frs outer) [] H H' s.heap s'.heap/\HOk P w H' s'.heap/\Fly s.heap H' s'.heap x cls od/\E cls od H'
section
variable {X:Cx}{pins:List (Addr×Obj)}{σ σ₁:St}{H H' H₁:Hp}{s s₁:Shared}{h':Heap}
def aq4:Value->List Addr
 | .ref T=>[T]
 | _=>[]
theorem F1 {h0 h1:Heap}(k:∀ b o,h0.get? b=some o->∃ o',h1.get? b=some o'):∀ b,h1.get? b=none->h0.get? b=none:=fun b e=>by
 cases q:h0.get? b with
 | none=>rfl
 | some o =>
  obtain ⟨o',e'⟩:=k b o q
  rw [e] at e';cases e'
theorem Inv.stepF {ch:List Addr}(I:Inv X pins σ H s)(hex:X.ex=[])
  (hch:∀ b∈ch,X.s_0.heap.get? b=none/\b≠X.env.locals/\(∀ x c,X.env.cells.lookup x=some c->c≠b)/\∀ p∈X.pn++pins,p.1≠b)
  (u:Un (frs X.stack) ch H H s.heap h') (hok:HOk X.prog X.w H h'):Inv X pins σ H { s with heap:=h' }:=by
 obtain ⟨m,⟨o0,es0,ep0,ho0,r0⟩,_⟩:=id I.loc
 obtain ⟨sl0,hL0⟩:=u.any ho0 I.free fun z=>(hch _ z).2.1 rfl
 have keep:∀ b o,b≠X.env.locals->b∉X.fs->b∉ch->s.heap.get? b=some o->H b=none->h'.get? b=some o:=fun b o hL hb hc e n=>u.keep b o e n (fun z=>(List.mem_cons.mp (I.stkSub b z)).elim hL hb) hc
 have slot:∀ b o,b≠X.env.locals->b∈X.fs->b∉ch->s.heap.get? b=some o->H b=none->∃ sl,h'.get? b=some { o with slots:=sl }:=fun b o _ _ hc e n=>u.any e n hc
 have ns:∀ m,s.heap.Ns X.env.locals m->h'.Ns X.env.locals m:=fun m' hm=>by
  obtain ⟨o',es',ep',ho',r'⟩:=hm
  rw [ho0] at ho';cases ho'
  exact ⟨_,es',ep',hL0,r'⟩
 have neL:∀ b o,X.s_0.heap.get? b=some o->b≠X.env.locals:=fun b o e=>Nat.ne_of_lt (Nat.lt_of_lt_of_le (Heap.lt_size e) I.ok.above)
 have neC:∀ b o,X.s_0.heap.get? b=some o->b∉ch:=fun b o e hb=>by
  rw [(hch b hb).1] at e;cases e
 have cellK:∀ x c,X.env.cells.lookup x=some c->∀ v,s.heap.IsCell c v->h'.IsCell c v:=fun x c e v ⟨o,ho,hd⟩=>by
  have nch:c∉ch:=fun z=>(hch c z).2.2.1 x c e rfl
  by_cases hc:c∈X.fs
  ·obtain ⟨sl,q⟩:=slot c o (I.cne x c e) hc nch ho (I.freeC x c e)
   exact ⟨_,q,hd⟩
  ·exact ⟨o,keep c o (I.cne x c e) hc nch ho (I.freeC x c e),hd⟩
 refine ⟨I.ok,I.os,I.bare,⟨fun b o e n hb hx=>?_,fun b o e n hb hx=>?_,fun b o e n hx=>?_,fun b o e hx=>?_,I.base.tups,I.base.frzs,I.base.tbls⟩,?_,fun x c e=>?_,I.free,I.freeC,fun p hp=>?_,hok,I.len⟩
 ·exact keep b o (neL b o e) hb (neC b o e) (I.base.keep b o e n hb hx) (I.base.free b o e n hx)
 ·obtain ⟨sl,e1⟩:=I.base.slot b o e n hb hx
  obtain ⟨sl',e2⟩:=slot b _ (neL b o e) hb (neC b o e) e1 (I.base.free b o e n hx)
  exact ⟨sl',e2⟩
 ·exact I.base.free b o e n hx
 ·obtain ⟨o',e1⟩:=I.base.there b o e hx
  exact u.there b o' e1 (neC b o e)
 ·obtain ⟨m,hn,hl⟩:=I.loc
  refine ⟨m,ns m hn,fun i x v e1 e2 e3=>?_⟩
  obtain ⟨u,r,l⟩:=hl i x v e1 e2 e3
  refine ⟨u,r,?_⟩
  rcases l with l | ⟨k,c,e,z⟩
  ·exact .inl l
  ·exact .inr ⟨k,c,e,cellK x c e _ z⟩
 ·obtain ⟨v,z⟩:=I.cell x c e
  exact ⟨v,cellK x c e v z⟩
 ·obtain ⟨e,n,ne,nf,d⟩:=I.pin p hp
  have nch:p.1∉ch:=fun z=>(hch p.1 z).2.2.2 p hp rfl
  exact ⟨keep p.1 p.2 ne nf nch e n,n,ne,nf,d⟩
theorem Inv.apart (I₁:Inv X pins σ₁ H₁ s₁)(hex:X.ex=[]){b:Addr}(e:s₁.heap.get? b=none):X.s_0.heap.get? b=none/\b≠X.env.locals/\(∀ x c,X.env.cells.lookup x=some c->c≠b)/\∀ p∈X.pn++pins,p.1≠b:=by
 refine ⟨F1 (fun b o q=>I₁.base.there b o q (by rw [hex];simp)) b e,fun z=>?_,fun x c hc z=>?_,fun p hp z=>?_⟩
 ·obtain ⟨_,⟨o,_,_,ho,_⟩,_⟩:=I₁.loc
  rw [z,ho] at e;cases e
 ·obtain ⟨_,o,ho,_⟩:=I₁.cell x c hc
  rw [z,e] at ho;cases ho
 ·have:=(I₁.pin p hp).1
  rw [z,e] at this;cases this
theorem ac4 {fs:List Addr}{x:Addr}{oe:Obj}{vs:Array Value}{old:Value}{od:Option Addr}{cls:Value}(hfs:∀ b,b∈fs->b∈frs X.stack)(hex:X.ex=[])(I₁:Inv X pins σ₁ H₁ s₁)(I:Inv X pins σ H s)(f:Fly s₁.heap H s.heap x cls od)
  (he:s.heap.get? x=some oe) (hd:oe.data=.fields vs) (ho:vs[1]?=some old) (N:at7 fs x oe old s.heap h') (ks:∀ b o,s₁.heap.get? b=some o->∃ o',s.heap.get? b=some o') :
  Inv X pins σ H { s with heap:=h' }/\Fly s₁.heap H h' x cls od:=by
 obtain ⟨ff,fn,oe',vs',he',hc,hdd,hd',tb⟩:=f
 rw [he] at he';cases he'
 rw [hd] at hd';cases hd'
 have hT:∀ T,old=.ref T->H T=none/\s₁.heap.get? T=none:=fun T e=>by
  rcases tb with q | ⟨T',oT,ts,q,_,_,_,_,q6,q7⟩
  ·rw [ho,e] at q;cases q
  ·rw [ho,e] at q;cases q;exact ⟨q6,q7⟩
 have nx:∀ b u,H b=some u->b≠x:=fun b u e z=>by rw [z,ff] at e;cases e
 have nT:∀ b u,H b=some u->old≠.ref b:=fun b u e z=>by rw [(hT b z).1] at e;cases e
 have nf:∀ b u,H b=some u->b∉fs:=fun b u e z=>by rw [I.stkFree b (hfs b z)] at e;cases e
 have hok:HOk X.prog X.w H h':=fun b u e=>by
  refine (I.hok b u e).stay (fun c v hc q=>?_) (fun _ q=>q) fun _ _ q=>q
  have:∃ u',H c=some u':=by
   rcases hc with rfl | z
   ·exact ⟨_,e⟩
   ·exact ⟨_,z⟩
  obtain ⟨u',e'⟩:=this
  exact N.keep c v (nx c u' e') (nT c u' e') (nf c u' e') q
 refine ⟨?_,ff,fn,?_⟩
 ·refine I.stepF (ch:=x::aq4 old) hex (fun b hb=>?_) ⟨fun b o e n hb hx=>?_,fun b o e n hb hx=>?_,fun b o e n hx=>n,fun b o e hx=>N.there b o e,fun _ _ e=>e,fun _ _ _ e=>e,fun b ps e=>⟨#[],by rw [e];simp⟩⟩ hok
  ·refine I₁.apart hex ?_
   rcases List.mem_cons.mp hb with rfl | hb
   ·exact fn
   ·cases old with
    | ref T =>
     have:b=T:=by simpa [aq4] using hb
     subst this
     exact (hT b rfl).2
    | _=>simp [aq4] at hb
  ·refine N.keep b o (fun z=>hx (by simp [z])) (fun z=>hx ?_) (fun z=>hb (hfs b z)) e
   rw [z];simp [aq4]
  ·refine N.slot b o (fun z=>hx (by simp [z])) (fun z=>hx ?_) e
   rw [z];simp [aq4]
 ·obtain ⟨oe',vs',T,oT,ts,q1,q2,q3,q4,q5,q6,q7,q8,q9,q10⟩:=N.obj
  refine ⟨oe',vs',q1,q2.trans hc,q3.trans hdd,q4,.inr ⟨T,oT,ts,q5,q6,q7,q8,q9,?_⟩⟩
  rcases q10 with q | q
  ·refine ⟨?_,F1 ks _ q⟩
   cases z:H T with
   | none=>rfl
   | some u =>
    exact (r9.gone (I.hok T u z) q).elim
  ·exact hT T q
def Thr (X:Cx)(E:XK):Prop:=∀ (pins:List (Addr×Obj)) (σ₁:St) (H₁:Hp) (s₁:Shared) (σ:St) (H:Hp) (s:Shared) (x:Addr) (cls:Value) (od:Option Addr),Inv X pins σ₁ H₁ s₁->Inv X pins σ H s ->
 (∀ b o,s₁.heap.get? b=some o->∃ o',s.heap.get? b=some o')->Fly s₁.heap H s.heap x cls od->E cls od H->X.xe (.ref x) s
theorem Thr.pass {E:XK}(h:Thr X E):B3 (cxX X.prog X.w) X E:=fun pins σ H s e s' I ⟨x,cls,od,H',e1,os,bare,un,hok,f,hE⟩=>by
 subst e1
 exact h pins σ H s σ H' s' x cls od I (I.call' os un hok bare (ch:=[]) fun b z=>absurd z (by simp)) (fun b o q=>un.there b o q (by simp)) f hE
theorem as6 {x:Addr}{cls:Value}{od:Option Addr}{Q:Unit->Shared->Prop}{E':Value->Shared->Prop}(hst:X.stack=X.env::X.outer)(hfr:X.env.frame=some X.env.locals)(hex:X.ex=[])(I₁:Inv X pins σ₁ H₁ s₁)(I:Inv X pins σ H s)
  (ks:∀ b o,s₁.heap.get? b=some o->∃ o',s.heap.get? b=some o') (f:Fly s₁.heap H s.heap x cls od) (h:∀ h',Inv X pins σ H { s with heap:=h' }->Fly s₁.heap H h' x cls od->(∀ b o,s₁.heap.get? b=some o->∃ o',h'.get? b=some o')->Q () { s with heap:=h' }) :
  wpAny (model X.prog X.w) X.A (noteFrame (.ref x) X.env) (fun _ s'=>wpAny (model X.prog X.w) X.A (setFlight (.ref x) none) Q E' s') E' s:=by
 obtain ⟨oe,vs,he,hc,hdd,hd,tb⟩:=id f.obj
 have hF:s.heap.FunFrames X.base (X.env::X.outer):=by rw [<-hst];exact I.stack
 refine bQ4 (I.ok.frames.trans (congrArg some hst)) hF hfr he hd (tb.imp id fun ⟨T,oT,ts,q1,q2,q3,q4,q5,_⟩=>⟨T,oT,ts,q1,q2,q3,q4,q5⟩) fun h' old ho N=>?_
 obtain ⟨I',f'⟩:=ac4 (fun b hb=>by rw [hst];exact hb) hex I₁ I f he hd ho N ks
 exact h h' I' f' fun b o q=>let ⟨o',q'⟩:=ks b o q;N.there b o' q'
end
section
variable {P:Program}{w:World}{K:W.Frag}{mg:Str->Option Value}{base:Heap}{N:List Str}{qual:Str}{scope:Scope}{f:Addr}{cd:Value}{A:Around}{outer:List Env}{s0:Shared}{H0:Hp}{E:XK}
theorem L9:Thr (ah6 (cxX P w) P w K mg base N qual scope f cd A outer s0 H0 E) E:=fun pins σ₁ H₁ s₁ σ H s x cls od I₁ I ks fl hE=>by
 show wpAny _ _ (leaving _ _) _ _ s
 unfold leaving
 refine wpAny_bind (as6 rfl rfl rfl I₁ I ks fl fun h' I' fl' _=>⟨x,cls,od,H,rfl,I'.os,I'.bare,I'.base,I'.hok,fl'.mono ?_,hE⟩)
 exact F1 fun b o q=>I₁.base.there b o q (by intro z;exact absurd (show b∈([]:List Addr) from z) (by simp))
theorem d4:B3 (cxX P w) (ah6 (cxX P w) P w K mg base N qual scope f cd A outer s0 H0 E) E:=Thr.pass (X:=ah6 (cxX P w) P w K mg base N qual scope f cd A outer s0 H0 E) L9
theorem C9:PassesOwn (model P w) (ah6 (cxX P w) P w K mg base N qual scope f cd A outer s0 H0 E).A (ah6 (cxX P w) P w K mg base N qual scope f cd A outer s0 H0 E).env (ah6 (cxX P w) P w K mg base N qual scope f cd A outer s0 H0 E).xe:=PassesOwn.leaving
theorem Fun.okX {x qual:Str}{st:Stmt}{f:Addr}{fd:FuncData}{N ps:List Str}{k:Nat}{sp:Sp}(F:Fun K x qual st f fd)(S:g9 N ps (d7 st))(len:∀ vs H Q E,sp vs H Q E->vs.length=ps.length)
  (hbody:∀ (cdv:Value) (A:Around) (outer:List Env) (s:Shared) (H:Hp) (vs:List V) (Q:VK) (E:XK),C2 k (A.deeper (envOfC qual (d7 st) s.heap.objs.size f cdv))->sp vs H Q E ->
   ∃ t,PSs (ah6 (cxX P w) P w K mg base N qual (d7 st) f cdv A outer s H E) (C1 st) t/\t { nx:=fun _ H'=>Q .non H',rt:=Q } (start N vs) H):l6 P w K mg base (cxX P w) (k+1) f fd ps sp:=by
 obtain ⟨oc,od,kV,doc,pm,an,cdv,ct,osl,rfl,lk,hcd⟩:=F.ex
 exact bB4 lk hcd S len fun A outer s H vs Q E hr hsp=>hbody cdv A outer s H vs Q E hr hsp
end
structure bS2 (K:W.Frag)(C:Addr):Prop where
 exc:W.excIn K C [.type "Exception",.type "BaseException",.type "object"] "Exception.__new__"=true
theorem bx5 {K:W.Frag}{h:Heap}{C:Addr}{bmB:List Value}{newId:String}(X:K.In h)(q:W.excIn K C bmB newId=true) :
  ∃ bm N nm qn bs hdct sn sub ab col dd k0 k1 k2 k3 k5 mN,h.get? C=some (excClassObj nm qn C N bs bm hdct sn sub ab col dd k0 k1 k2 k3 k5 newId)/\h.Ns N mN/\mN "__init__"=none/\OwnTail h bmB bm:=by
 unfold W.excIn at q
 split at q
 ·rename_i dd cd sl ho
  split at q
  ·rename_i C' bm k0 k1 k2 k3 n k5 hm hs
   simp only [Bool.and_eq_true,beq_iff_eq,Bool.not_eq_true'] at q
   obtain ⟨⟨⟨⟨⟨rfl,rfl⟩,hdel⟩,ht⟩,hok⟩,hni⟩:=q
   obtain ⟨nm,bs,mro,ns,qn,hd,sn,sub,ab,col,del⟩:=cd
   dsimp only at hm hdel hok hni
   subst hm hdel
   have hsl:sl=#[k0,k1,k2,k3,some (.builtin n),k5]:=by
    obtain ⟨l⟩:=sl
    simp only at hs
    rw [hs]
   subst hsl
   exact ⟨bm,ns,nm,qn,bs,hd,sn,sub,ab,col,dd,k0,k1,k2,k3,k5,_,X _ _ ho,.of_isNs (W.isNs_of_in X hok),W.nsMap_none_of_in X hok hni,W.tail_of_in X ht⟩
  ·cases q
 ·cases q
section
variable {X:Cx}{E:XK}{c:Str}{C:Addr}{np cpos pos:Pos}
def bp8 (C:Addr)(E:XK):TS:=fun _ _ H=>E (.ref C) none H
theorem D4 (ht:Thr X E)(hc:X.calm=true)(hg:Gl X c)(hm:X.mg c=some (.ref C))(x:bS2 X.K C)(hd:(c == ("__debug__" : Str))=false:=by decide) :
  PS X (.Raise (some (.Call (.Name c np) [] [] cpos)) none pos) (bp8 C E):=by
 intro pins s σ H D I hq
 obtain ⟨bm,Na,nm,qn,bs,hdct,sn,sub,ab,col,dd,k0,k1,k2,k3,k5,mN,hC,hN,hni,T⟩:=bx5 I.kIn x.exc
 refine wpAny_Raise_call_subT (C:=C) (nm:=nm) (q:=qn) (N:=Na) (bs:=bs) (bm:=bm) (hdct:=hdct) (sn:=sn) (sub:=sub) (ab:=ab) (col:=col) (dd:=dd) (k0:=k0) (k1:=k1) (k2:=k2) (k3:=k3) (k5:=k5)
  PySem.F.excBase_Exception (mN:=mN) (T.hasType PySem.F.excBase_Exception.hasBase) (I.ok.hd hc) rfl hni (X6 I hg hm ⟨rfl,?_⟩ hd)
 refine evalArgs_empty ⟨rfl,Nat.zero_le _,hC,hN,T,fun h' e m=>?_⟩
 refine ht pins σ H s σ H _ e (.ref C) none I (I.kept (t':=s.toks) m.keeps) (fun b o q=>⟨o,m.keeps b o q⟩) ⟨?_,m.new,?_⟩ hq
 ·cases z:H e with
  | none=>rfl
  | some u=>exact (r9.gone (I.hok e u z) m.new).elim
 ·obtain ⟨t,h1,_,_⟩:=m.there
  exact ⟨_,_,h1,rfl,rfl,rfl,.inl rfl⟩
end
end L2
set_option maxHeartbeats 2000000
namespace L2
open PySem PySem.Spec PyProof.Rows
open PySem.Builtin PySem.Builtin.ObjectAttr
section
variable {P:Program}{w:World}{A:Around}{E:Value->Shared->Prop}{hp:Heap}{gs:Array GenState}{dr:Drawn}{tk:Nat}{os:OsState}
variable {cn cq:Str}{C Nc x:Addr}{cb bmr:List Value}{csn:List Str}{csub:List Value}{cab:Bool}{ccol:Option Bool}{cdd:Option Addr}{p0 p1 p2 p3 p5:Option Value}{B idn ids own:String}
 {mC mA:Str->Option Value}{name:Str}{v:Value}
theorem az1 {tn:Tok}{Q:Fin->Shared->Prop}{nms:List Str}{ob:Obj}(SF:StoreFacts B bmr ids own)
  (hC:hp.get? C=some (excClassObj cn cq C Nc cb bmr true csn csub cab ccol cdd p0 p1 p2 p3 p5 idn)) (hN:hp.Ns Nc mC) (hno:mC name=none) (hB:typeLookup (.type B) name=pure none)
  (hx:hp.get? x=some ob) (hcl:ob.cls=.ref C) (hdat:∃ vs,ob.data=.fields vs) (hdi:(ob.dict=none/\mA=fun _=>none)\/∃ dx,ob.dict=some dx/\dx≠x/\hp.Ns1 dx mA)
  (hw:Within mA nms) (hsz:nms.length<=sizeLine)
  (hq:∀ h2 t2 dx,(ob.dict=some dx\/(ob.dict=none/\dx=hp.objs.size))->dx≠x->h2.Ns1 dx (fun y=>if y=name then some v else mA y)->h2.get? x=some { ob with dict:=some dx }->(∀ b u,b≠x->b≠dx->hp.get? b=some u->h2.get? b=some u)->Q (.done (.ret .none)) ⟨h2,gs,dr,t2,os⟩) :
  wpAny (model P w) A (Builtin.«object.__setattr__» ⟨[.ref x,.str name tn,v],[]⟩) Q E ⟨hp,gs,dr,tk,os⟩:=by
 have hps:=SF.passes (.ref x)
 obtain ⟨vs,hvs⟩:=hdat
 unfold Builtin.«object.__setattr__»
 repeat (first
  | rw [refuse_eq]
  | (rw [refuseLoop_ref,hps])
  | (with_reducible refine wpAny_loadPart_at hx ?_;rw [hcl])
  | with_reducible refine wpAny_mroOf_exc hC ?_
  | (with_reducible refine wpAny_typeLookup_exc hC hN SF.mro hB ?_;rw [hno])
  | wp_step)
 rcases hdi with ⟨e0,rfl⟩ | ⟨dx,e0,hne,hns⟩
 ·rw [e0,if_neg (by simp [typeHasDict])]
  split
  ·rename_i z
   cases z
  ·split
   ·rename_i c z
    rw [hvs] at z
    cases z
   ·have hx1:(hp.push { cls:=.type "dict",data:=.dict #[] }).get? x=some ob:=Heap.get?_push_of_some _ hx
    have hxs:x≠hp.objs.size:=Nat.ne_of_lt (Heap.lt_size hx)
    refine wpAny_bind (wpAny_alloc' (wpAny_bind (wpAny_update' hx1 (wpAny_pure ?_))))
    have g1:((hp.push { cls:=.type "dict",data:=.dict #[] }).update x fun u=>{ cls:=u.cls,dict:=some hp.objs.size,data:=u.data,slots:=u.slots }).get? hp.objs.size=some { cls:=.type "dict",data:=.dict #[] } :=
     (Heap.get?_update_ne _ _ _ _ hxs.symm).trans (Heap.get?_push_at rfl rfl)
    have g2:((hp.push { cls:=.type "dict",data:=.dict #[] }).update x fun u=>{ cls:=u.cls,dict:=some hp.objs.size,data:=u.data,slots:=u.slots }).Ns hp.objs.size (fun _=>none) :=
     ⟨_,#[],_,g1,rfl,(fun q hq'=>absurd hq' (by simp)),fun _=>rfl⟩
    show wpAny _ _ (storeInDict hp.objs.size (.str name tn) name v) _ _ _
    unfold storeInDict newKeyGuard
    refine wpAny_bind (wpAny_pure (wpAny_bind (wpAny_nsSet1 (Heap.Ns1.of_empty g2) fun h2 n2 s2=>?_)))
    obtain ⟨oD,eD,pD,q1,q2,q3⟩:=n2.count (Within.cons name v Within.nil)
    refine wpAny_bind (wpAny_lookBehind q1 (by rw [q2];exact pastItsLine_dict (Nat.le_trans q3 (by rw [List.length_cons,List.length_nil,sizeLine_eq];omega))) ?_)
    wp_walk
    refine hq h2 _ hp.objs.size (.inr ⟨e0,rfl⟩) (Ne.symm hxs) n2 ?_ fun b u hb hd z=>(s2.2 b hd).trans ((Heap.get?_update_ne _ _ _ _ hb).trans (Heap.get?_push_of_some _ z))
    refine (s2.2 x hxs).trans (Heap.get?_update_self _ hx1 ?_)
    obtain ⟨oc,od,odt,osl⟩:=ob
    cases hvs
    rfl
 ·rw [e0]
  refine wpAny_pure ?_
  show wpAny _ _ (storeInDict dx (.str name tn) name v) _ _ _
  unfold storeInDict newKeyGuard
  refine wpAny_bind (wpAny_pure (wpAny_bind (wpAny_nsSet1 hns fun h2 n2 s2=>?_)))
  obtain ⟨oD,eD,pD,q1,q2,q3⟩:=n2.count (Within.cons name v hw)
  refine wpAny_bind (wpAny_lookBehind q1 (by rw [q2];exact pastItsLine_dict (Nat.le_trans q3 (by rw [List.length_cons];omega))) ?_)
  wp_walk
  refine hq h2 _ dx (.inl e0) hne n2 ?_ fun b u hb hd z=>(s2.2 b hd).trans z
  rw [(s2.2 x hne.symm).trans hx]
  obtain ⟨oc,od,odt,osl⟩:=ob
  cases (show od=some dx from e0)
  rfl
theorem bB9 {Q:Unit->Shared->Prop}{nms:List Str}{ob:Obj}(SF:StoreFacts B bmr ids own)
  (hC:hp.get? C=some (excClassObj cn cq C Nc cb bmr true csn csub cab ccol cdd p0 p1 p2 p3 p5 idn)) (hN:hp.Ns Nc mC) (hns:mC "__setattr__"=none) (hno:mC name=none) (hB:typeLookup (.type B) name=pure none)
  (hx:hp.get? x=some ob) (hcl:ob.cls=.ref C) (hdat:∃ vs,ob.data=.fields vs) (hdi:(ob.dict=none/\mA=fun _=>none)\/∃ dx,ob.dict=some dx/\dx≠x/\hp.Ns1 dx mA)
  (hw:Within mA nms) (hsz:nms.length<=sizeLine)
  (hq:∀ h2 t2 dx,(ob.dict=some dx\/(ob.dict=none/\dx=hp.objs.size))->dx≠x->h2.Ns1 dx (fun y=>if y=name then some v else mA y)->h2.get? x=some { ob with dict:=some dx }->(∀ b u,b≠x->b≠dx->hp.get? b=some u->h2.get? b=some u)->Q () ⟨h2,gs,dr,t2,os⟩) :
  wpAny (model P w) A (setAttr (.ref x) name v) Q E ⟨hp,gs,dr,tk,os⟩:=by
 have sb:=SF.slot.bind (.ref x)
 unfold setAttr callSpecial? specialOf
 repeat (any_goals (first
  | assumption
  | (with_reducible refine wpAny_loadPart_at hx ?_;rw [hcl])
  | (with_reducible refine wpAny_typeLookup_exc hC hN SF.mro SF.slot.lookup ?_;rw [hns])
  | wp_step))
 refine codeAny_call_builtin SF.slot.plain SF.entry (wpAny_check_sa SF hC hx hcl (az1 SF hC hN hno hB hx hcl hdat hdi hw hsz fun h2 t2 dx e1 e2 e3 e4 e5=>?_))
 repeat (any_goals (first | assumption | wp_step))
 exact hq h2 t2 dx e1 e2 e3 e4 e5
end
end L2
set_option maxHeartbeats 2000000
namespace L2
open PySem PySem.Spec PyProof.Rows
open PySem.Builtin PySem.Builtin.ObjectAttr
section
variable {P:Program}{w:World}{A:Around}{E:Value->Shared->Prop}{hp:Heap}{gs:Array GenState}{dr:Drawn}{tk:Nat}{os:OsState}
variable {cn cq:Str}{C Nc x dx:Addr}{cb bmr:List Value}{csn:List Str}{csub:List Value}{cab:Bool}{ccol:Option Bool}{cdd:Option Addr}{p0 p1 p2 p3 p5:Option Value}{B idn:String}
 {mC mA:Str->Option Value}{name:Str}{v:Value}{ob:Obj}{vs:Array Value}
theorem aE3 {tn:Tok}{Q:Fin->Shared->Prop}(FB:ExcAttrBase B bmr)
  (hC:hp.get? C=some (excClassObj cn cq C Nc cb bmr true csn csub cab ccol cdd p0 p1 p2 p3 p5 idn)) (hN:hp.Ns Nc mC) (hno:mC name=none) (hB:typeLookup (.type B) name=pure none)
  (hx:hp.get? x=some ob) (hcl:ob.cls=.ref C) (hdat:ob.data=.fields vs) (hdi:ob.dict=some dx) (hns:hp.Ns1 dx mA) (hv:mA name=some v) (hq:Q (.done (.ret v)) ⟨hp,gs,dr,tk,os⟩) :
  wpAny (model P w) A (Builtin.«object.__getattribute__» ⟨[.ref x,.str name tn],[]⟩) Q E ⟨hp,gs,dr,tk,os⟩:=by
 unfold Builtin.«object.__getattribute__»
 repeat (first
  | (with_reducible refine wpAny_loadPart_at hx ?_;rw [hcl])
  | (with_reducible refine wpAny_typeLookup_exc hC hN FB.mro hB ?_;rw [hno])
  | wp_step)
 split
 ·rename_i c z
  rw [hdat] at z
  cases z
 ·unfold instanceDict
  repeat (first
   | (with_reducible refine wpAny_loadPart_at hx ?_;rw [hcl])
   | with_reducible refine wpAny_loadPart_at hC ?_
   | wp_step)
  rw [hdi]
  repeat (first
   | (with_reducible refine wpAny_nsGet hns.ns ?_;rw [hv])
   | wp_step)
  exact hq
theorem bM5 {expr:Bool}{Q:Value->Shared->Prop}(FB:ExcAttrBase B bmr)
  (hC:hp.get? C=some (excClassObj cn cq C Nc cb bmr true csn csub cab ccol cdd p0 p1 p2 p3 p5 idn)) (hN:hp.Ns Nc mC) (hg1:mC "__getattribute__"=none) (hg2:mC "__getattr__"=none) (hno:mC name=none) (hB:typeLookup (.type B) name=pure none)
  (hx:hp.get? x=some ob) (hcl:ob.cls=.ref C) (hdat:ob.data=.fields vs) (hdi:ob.dict=some dx) (hns:hp.Ns1 dx mA) (hv:mA name=some v) (hh:handedOut v=pure v) (hq:Q v ⟨hp,gs,dr,tk+1,os⟩) :
  wpAny (model P w) A (getAttr (.ref x) name expr) Q E ⟨hp,gs,dr,tk,os⟩:=by
 have f3:=FB.ga.bind (.ref x)
 have hx0:(expr && onTheHeap (Value.builtin "BaseException.__getattribute__"))=false:=by cases expr<;>rfl
 have hx2:(Value.builtin "BaseException.__getattribute__" == Value.builtin "object.__getattribute__")=false:=by decide +kernel
 have hx1:(onTheHeap (Value.ref C) && Value.builtin "BaseException.__getattribute__" == Value.builtin "object.__getattribute__")=false:=by rw [hx2];rfl
 unfold getAttr
 repeat (any_goals (first
  | assumption
  | (with_reducible refine wpAny_loadPart_at hx ?_;rw [hcl])
  | (with_reducible refine wpAny_typeLookup_exc hC hN FB.mro FB.ga.lookup ?_;rw [hg1])
  | (with_reducible refine wpAny_typeLookup_exc hC hN FB.mro FB.noGetattr ?_;rw [hg2])
  | wp_step))
 refine codeAny_call_builtin FB.ga.plain F.entry_bexc_ga (wpAny_check_ga_own FB hC .base hx hcl ?_)
 refine aE3 FB hC hN hno hB hx hcl hdat hdi hns hv ?_
 repeat (any_goals (first | assumption | wp_step))
end
abbrev bmX:List Value:=[.type "Exception",.type "BaseException",.type "object"]
theorem aY6 {K:W.Frag}{h:Heap}{N:Addr}{m:Str->Option Value}{n:Str}{v:Value}(X:K.In h)(G:h.Ns N m)(e:W.nsIn K N n=some (some v)):m n=some v:=by
 obtain ⟨o,es,ep,ho,hd,_,hf⟩:=G
 unfold W.nsIn at e
 split at e
 ·rename_i q
  have z:=X _ _ q
  rw [ho] at z
  cases z
  cases hd
  split at e
  ·rename_i y he
   rw [<-hf]
   unfold nsFind findBy
   rw [<-Array.find?_toList,he]
   simpa using e
  ·split at e<;>simp at e
 ·cases e
def aP7 (K:W.Frag)(C fI:Addr)(names:List Str):Bool:=match K.lookup C with
 | some ⟨.type "type",_,.cls cd,sl⟩=>(match cd.mro,sl.toList with
  | .ref C'::bm,[_,_,_,_,some (.builtin n),_]=>C' == C && n == "Exception.__new__" && !cd.hasDel && cd.hasDict && bm == bmX && W.nsOkIn K cd.ns && W.nsIn K cd.ns "__init__" == some (some (.ref fI)) && names.all fun x=>W.nsIn K cd.ns x == some none
  | _,_=>false)
 | _=>false
def XAt (h:Heap)(C fI:Addr)(names:List Str):Prop:=∃ cn cq Nc cb csn csub cab ccol cdd p0 p1 p2 p3 p5 mC,h.get? C=some (excClassObj cn cq C Nc cb bmX true csn csub cab ccol cdd p0 p1 p2 p3 p5 "Exception.__new__")/\h.Ns Nc mC/\mC "__init__"=some (.ref fI)/\∀ n∈names,mC n=none
theorem af4 {K:W.Frag}{h:Heap}{C fI:Addr}{names:List Str}(X:K.In h)(q:aP7 K C fI names=true):XAt h C fI names:=by
 unfold aP7 at q
 split at q
 ·rename_i dd cd sl ho
  split at q
  ·rename_i C' bm k0 k1 k2 k3 n k5 hm hs
   simp only [Bool.and_eq_true,beq_iff_eq,Bool.not_eq_true',List.all_eq_true] at q
   obtain ⟨⟨⟨⟨⟨⟨⟨rfl,rfl⟩,hdel⟩,hdi⟩,rfl⟩,hok⟩,hin⟩,hno⟩:=q
   obtain ⟨nm,bs,mro,ns,qn,hd,sn,sub,ab,col,del⟩:=cd
   dsimp only at hm hdel hok hin hno hdi
   subst hm hdel hdi
   have hsl:sl=#[k0,k1,k2,k3,some (.builtin "Exception.__new__"),k5]:=by
    obtain ⟨l⟩:=sl
    simp only at hs
    rw [hs]
   subst hsl
   have G:h.Ns ns (h.nsMap ns):=.of_isNs (W.isNs_of_in X hok)
   exact ⟨nm,qn,ns,bs,sn,sub,ab,col,dd,k0,k1,k2,k3,k5,_,X _ _ ho,G,aY6 X G hin,fun m hm=>W.nsMap_none_of_in X hok (hno m hm)⟩
  ·cases q
 ·cases q
end L2
set_option maxHeartbeats 2000000
namespace L2
open PySem PySem.Spec PyProof.Rows
def xoO (x C:Addr)(od:Option Addr):HO:=.ext fun h=>∃ vs,h.get? x=some ⟨.ref C,od,.fields vs,#[]⟩/\vs[1]?=some .none
def xdO (d:Addr)(fs:List (Str×V)):HO:=.ext fun h=>∃ mA,h.Ns1 d mA/\(∀ f,V3 (fs.lookup f) (mA f))/\PySem.Within mA (fs.map (·.1))
theorem bc2 {P:Program}{w:World}{H:Hp}{h:Heap}{x C:Addr}{od:Option Addr}{vs:Array Value}(e:h.get? x=some ⟨.ref C,od,.fields vs,#[]⟩)(h1:vs[1]?=some .none):r9 P w H h x (xoO x C od) :=
 ⟨⟨vs,e,h1⟩,⟨_,e⟩,fun _ _ ⟨ws,q,q1⟩ k=>⟨ws,k _ q,q1⟩⟩
theorem bC0 {P:Program}{w:World}{H:Hp}{h:Heap}{d:Addr}{fs:List (Str×V)}{mA:Str->Option Value}(n:h.Ns1 d mA)(r:∀ f,V3 (fs.lookup f) (mA f))(wi:PySem.Within mA (fs.map (·.1))):r9 P w H h d (xdO d fs):=by
 refine ⟨⟨mA,n,r,wi⟩,let ⟨o,_,_,e,_⟩:=n;⟨o,e⟩,fun h1 h2 ⟨mB,n',r',w'⟩ k=>⟨mB,?_,r',w'⟩⟩
 obtain ⟨o,es,ep,e,z⟩:=n'
 exact ⟨o,es,ep,k o e,z⟩
def del (H:Hp)(a:Addr):Hp:=fun b=>if b=a then none else H b
theorem at1 {H:Hp}{a:Addr}:del H a a=none:=if_pos rfl
theorem aD5 {H:Hp}{a b:Addr}(h:b≠a):del H a b=H b:=if_neg h
section
variable {X:Cx}{pins:List (Addr×Obj)}{σ:St}{H:Hp}{s:Shared}{a C:Addr}
theorem Inv.forget {o:HO}(I:Inv X pins σ H s)(e:H a=some o)(hm:(∀ xs,o≠.tup xs)/\(∀ b u,o≠.frz b u)/\(∀ ps,o≠.tbl ps)/\∀ y,o≠.own y):Inv X pins σ (del H a) s:=by
 have ne:∀ b,H b=none->del H a b=none:=fun b q=>by
  by_cases z:b=a
  ·rw [z];exact at1
  ·rw [aD5 z];exact q
 have kp:∀ b u,H b=some u->b≠a->del H a b=some u:=fun b u q z=>by rw [aD5 z];exact q
 have nt:∀ b xs,H b=some (.tup xs)->b≠a:=fun b xs q z=>by rw [z,e] at q;exact hm.1 xs (Option.some.inj q)
 have nf:∀ b o' u,H b=some (.frz o' u)->b≠a:=fun b o' u q z=>by rw [z,e] at q;exact hm.2.1 o' u (Option.some.inj q)
 have nb:∀ b ps,H b=some (.tbl ps)->b≠a:=fun b ps q z=>by rw [z,e] at q;exact hm.2.2.1 ps (Option.some.inj q)
 have no:∀ b y,H b=some (.own y)->b≠a:=fun b y q z=>by rw [z,e] at q;exact hm.2.2.2 y (Option.some.inj q)
 refine ⟨I.ok,I.os,I.bare,⟨fun b o' q n hb hx=>I.base.keep b o' q n hb hx,fun b o' q n hb hx=>I.base.slot b o' q n hb hx,fun b o' q n hx=>ne b (I.base.free b o' q n hx),I.base.there,fun b xs q=>kp b _ (I.base.tups b xs q) (nt b xs (I.base.tups b xs q)),
  fun b o' u q=>kp b _ (I.base.frzs b o' u q) (nf b o' u (I.base.frzs b o' u q)),fun b ps q=>let ⟨m,z⟩:=I.base.tbls b ps q;⟨m,kp b _ z (nb b _ z)⟩⟩,I.loc,I.cell,ne _ I.free,fun x c q=>ne _ (I.freeC x c q),fun p hp=>let ⟨q1,q2,q3⟩:=I.pin p hp;⟨q1,ne _ q2,q3⟩,fun b u q=>?_,I.len⟩
 by_cases z:b=a
 ·rw [z,at1] at q;cases q
 ·rw [aD5 z] at q
  exact (I.hok b u q).stay (fun _ _ _ q'=>q') (fun c q'=>kp c _ q' (no c b q')) fun c xs q'=>kp c _ q' (nt c xs q')
structure aD9 (K:W.Frag)(C fI:Addr)(names:List Str):Prop where
 ini:aP7 K C fI names=true
 sa:("__setattr__" : Str)∈names
 ga:("__getattribute__" : Str)∈names
 gt:("__getattr__" : Str)∈names
 fn:W.isFn K (.ref fI)=true
theorem aW6 {A:Around}{E:Value->Shared->Prop}{fI:Addr}{names:List Str}{od:Option Addr}{fs:List (Str×V)}{f:Str}{y:V}{u:Value}{Q:Unit->Shared->Prop}(I:Inv X pins σ H s)(e:H a=some (xoO a C od))
  (hd:(od=none/\fs=[])\/∃ d,od=some d/\d≠a/\H d=some (xdO d fs)) (c:aD9 X.K C fI names) (hf:f∈names) (hB:typeLookup (.type "Exception") f=pure none) (hl:fs.length < 1000) (ry:t9 y u)
  (h:∀ s' d,((od=none/\H d=none)\/od=some d)->d≠a->Inv X pins σ (upd (upd H d (xdO d (z9 f y fs))) a (xoO a C (some d))) s'->Q () s'):wpAny (model X.prog X.w) A (setAttr (.ref a) f u) Q E s:=by
 obtain ⟨cn,cq,Nc,cb,csn,csub,cab,ccol,cdd,p0,p1,p2,p3,p5,mC,hC,hN,_,hno⟩:=af4 I.kIn c.ini
 obtain ⟨⟨vs,hx,hv1⟩,_,_⟩:=(show r9 X.prog X.w H s.heap a (xoO a C od) from I.hok a _ e)
 obtain ⟨mA,hdi,hr,hwi⟩:∃ mA:Str->Option Value,((od=none/\mA=fun _=>none)\/∃ dx,od=some dx/\dx≠a/\s.heap.Ns1 dx mA)/\(∀ g,V3 (fs.lookup g) (mA g))/\PySem.Within mA (fs.map (·.1)):=by
  rcases hd with ⟨z1,z2⟩ | ⟨d,z1,z2,z3⟩
  ·subst z2
   exact ⟨fun _=>none,.inl ⟨z1,rfl⟩,fun _=>True.intro,fun g hg=>absurd rfl hg⟩
  ·obtain ⟨⟨mA,n,r,wi⟩,_,_⟩:=(show r9 X.prog X.w H s.heap d (xdO d fs) from I.hok d _ z3)
   exact ⟨mA,.inr ⟨d,z1,z2,n⟩,r,wi⟩
 obtain ⟨hh,gg,dd,tt,oo⟩:=s
 refine bB9 (nms:=fs.map (·.1)) PySem.F.store_Exception hC hN (hno _ c.sa) (hno _ hf) hB hx rfl ⟨vs,rfl⟩ hdi hwi (by rw [List.length_map,sizeLine_eq];omega) fun h2 t2 dx e1 e2 e3 e4 e5=>?_
 have e1':(od=none/\H dx=none)\/od=some dx:=by
  rcases e1 with z | ⟨z,z2⟩
  ·exact .inr z
  ·refine .inl ⟨z,I.hok.fresh ?_⟩
   rw [z2];exact Nat.le_refl _
 refine h _ dx e1' e2 ?_
 have dOk:∀ H':Hp,r9 X.prog X.w H' h2 dx (xdO dx (z9 f y fs)):=fun H'=>by
  refine bC0 e3 (fun g=>?_) fun g hg=>?_
  ·rw [aa7]
   by_cases q:g=f
   ·rw [if_pos q,if_pos q];exact ry
   ·rw [if_neg q,if_neg q];exact hr g
  ·by_cases q:g=f
   ·rw [q];exact (U7 f y fs).1
   ·refine (U7 f y fs).2 g (hwi g fun z=>hg ?_)
    show (if g=f then some u else mA g)=none
    rw [if_neg q];exact z
 have aOk:∀ H':Hp,r9 X.prog X.w H' h2 a (xoO a C (some dx)):=fun H'=>bc2 (vs:=vs) e4 hv1
 have tr:∀ b q,H b=some q->b≠a->b≠dx->r9 X.prog X.w (upd (upd H dx (xdO dx (z9 f y fs))) a (xoO a C (some dx))) h2 b q:=fun b q z za zd=>by
  have dT:∀ xs,H dx≠some (.tup xs):=fun xs w=>by
   rcases e1' with ⟨_,k⟩ | k
   ·rw [k] at w;cases w
   ·rcases hd with ⟨k2,_⟩ | ⟨d,k2,_,k3⟩
    ·rw [k] at k2;cases k2
    ·rw [k] at k2;cases k2;rw [k3] at w;cases w
  have dO:∀ y',H dx≠some (.own y'):=fun y' w=>by
   rcases e1' with ⟨_,k⟩ | k
   ·rw [k] at w;cases w
   ·rcases hd with ⟨k2,_⟩ | ⟨d,k2,_,k3⟩
    ·rw [k] at k2;cases k2
    ·rw [k] at k2;cases k2;rw [k3] at w;cases w
  have nA:∀ c' q',H c'=some q'->(∀ ψ,q'≠.ext ψ)->c'≠a:=fun c' q' w k z'=>by
   rw [z',e] at w
   exact k _ (Option.some.inj w).symm
  refine (I.hok b q z).stay (fun c' v' hc' q'=>e5 c' v' ?_ ?_ q') (fun c' w=>?_) fun c' xs w=>?_
  ·rcases hc' with k | k
   ·rw [k];exact za
   ·exact nA c' _ k (by intro ψ w;cases w)
  ·rcases hc' with k | k
   ·rw [k];exact zd
   ·intro w;rw [w] at k;exact dO _ k
  ·rw [d6 (nA c' _ w (by intro ψ k;cases k)),d6 (by intro k;rw [k] at w;exact dO _ w)];exact w
  ·rw [d6 (nA c' _ w (by intro ψ k;cases k)),d6 (by intro k;rw [k] at w;exact dT _ w)];exact w
 have hok:HOk X.prog X.w (upd (upd H dx (xdO dx (z9 f y fs))) a (xoO a C (some dx))) h2:=fun b q z=>by
  by_cases hb:b=a
  ·subst hb;rw [c7] at z;cases z;exact aOk _
  ·rw [d6 hb] at z
   by_cases hb2:b=dx
   ·subst hb2;rw [c7] at z;cases z;exact dOk _
   ·rw [d6 hb2] at z;exact tr b q z hb hb2
 have ga:∀ b u',hh.get? b=some u'->∃ o',h2.get? b=some o':=fun b u' z=>by
  by_cases hb:b=a
  ·subst hb;exact ⟨_,e4⟩
  ·by_cases hb2:b=dx
   ·subst hb2;obtain ⟨o,_,_,z',_⟩:=e3;exact ⟨o,z'⟩
   ·exact ⟨u',e5 b u' hb hb2 z⟩
 have nd:∀ b u',hh.get? b=some u'->H b=none->b≠a/\b≠dx:=fun b u' z n=>by
  refine ⟨fun k=>(by rw [k,e] at n;cases n),fun k=>?_⟩
  rcases e1 with k1 | ⟨_,k2⟩
  ·rcases hd with ⟨k3,_⟩ | ⟨d,k3,_,k4⟩
   ·have k1:od=some dx:=k1
    rw [k3] at k1;cases k1
   ·have k1:od=some dx:=k1
    rw [k3] at k1;cases k1;rw [k,k4] at n;cases n
  ·have:=Heap.lt_size z
   rw [k,k2] at this
   exact absurd this (Nat.lt_irrefl _)
 refine Inv.un (s:=⟨hh,gg,dd,tt,oo⟩) (h':=h2) (t':=t2) I ⟨fun b o q n _ _=>e5 b o (nd b o q n).1 (nd b o q n).2 q,fun b o q n _ _=>⟨o.slots,e5 b o (nd b o q n).1 (nd b o q n).2 q⟩,fun b o q n _=>by rw [d6 (nd b o q n).1,d6 (nd b o q n).2];exact n,fun b o q _=>ga b o q,fun b xs q=>?_,fun b o u q=>?_,fun b ps q=>⟨#[],?_⟩⟩ hok
 all_goals
  have hba:b≠a:=by intro k;rw [k,e] at q;cases q
  have hbd:b≠dx:=by
   intro k
   rcases e1' with ⟨_,k1⟩ | k1
   ·rw [k,k1] at q;cases q
   ·rcases hd with ⟨k3,_⟩ | ⟨d,k3,_,k4⟩
    ·rw [k3] at k1;cases k1
    ·rw [k3] at k1;cases k1;rw [k,k4] at q;cases q
  rw [d6 hba,d6 hbd,q]
 simp
end
end L2
set_option maxHeartbeats 2000000
namespace L2
open PySem PySem.Spec PyProof.Rows
section
variable {X:Cx}{pins:List (Addr×Obj)}{σ:St}{H:Hp}{s:Shared}{a C:Addr}{h':Heap}
theorem Inv.laidF {o:HO}{t':Nat}(I:Inv X pins σ H s)(k:∀ b u,s.heap.get? b=some u->h'.get? b=some u)(hn:s.heap.get? a=none)(new:r9 X.prog X.w (upd H a o) h' a o):Inv X pins σ (upd H a o) { s with heap:=h',toks:=t' }:=by
 have fr:H a=none:=by
  cases z:H a with
  | none=>rfl
  | some u=>exact (r9.gone (I.hok a u z) hn).elim
 have ne:∀ b u,s.heap.get? b=some u->b≠a:=fun b u q z=>by rw [z,hn] at q;cases q
 refine I.un ⟨fun b u q _ _ _=>k b u q,fun b u q _ _ _=>⟨u.slots,k b u q⟩,fun b u q n _=>by rw [d6 (ne b u q)];exact n,fun b u q _=>⟨u,k b u q⟩,fun b xs q=>by rw [d6 (i0 q fr)];exact q,fun b u xs q=>by rw [d6 (i0 q fr)];exact q,fun b ps q=>⟨#[],by rw [d6 (i0 q fr),q];simp⟩⟩ fun b u e=>?_
 by_cases hb:b=a
 ·subst hb;rw [c7] at e;cases e;exact new
 ·rw [d6 hb] at e
  exact (I.hok b u e).stay (fun c v _ q=>k c v q) (fun c q=>by rw [d6 (i0 q fr)];exact q) fun c xs q=>by rw [d6 (i0 q fr)];exact q
theorem bw6 {K:W.Frag}{h:Heap}{f:Addr}(KX:K.In h)(e:W.isFn K (.ref f)=true):∃ o,h.get? f=some o/\o.cls=.type "function":=by
 have q:W.typeIn K (.ref f)=some (.type "function"):=beq_iff_eq.mp e
 unfold W.typeIn at q
 simp only at q
 cases z:K.lookup f with
 | none=>rw [z] at q;simp at q
 | some o =>
  rw [z] at q
  refine ⟨o,KX _ _ z,?_⟩
  simpa using q
theorem aX0 {k:Nat}{fI:Addr}{fd:FuncData}{ps names:List Str}{sp:Sp}{E:XK}{us:List Value}{vs:List V}{R:Addr->Option Addr->Hp->Prop}(c:aD9 X.K C fI names)(F:l6 X.prog X.w X.K X.mg X.base (cxX X.prog X.w) k fI fd ps sp)(hr:C2 (k+1) X.A)(hb:P7 X.K fd ps [])
  (hx:B3 (cxX X.prog X.w) X E) (I:Inv X pins σ H s) (r:n9 vs us) (hlen:us.length<=sizeLine)
  (h:∀ x,H x=none->sp (.ref x::vs) (upd H x (xoO x C none)) (fun v H2=>v=.non/\∃ od,H2 x=some (xoO x C od)/\R x od H2) E) :
  wpAny (model X.prog X.w) X.A (call (.ref C) us) (fun u s'=>∃ x od H2,u=.ref x/\Inv X pins σ H2 s'/\s.heap.get? x=none/\(∀ b o,s.heap.get? b=some o->∃ o',s'.heap.get? b=some o')/\H2 x=some (xoO x C od)/\R x od H2) X.xe s:=by
 obtain ⟨cn,cq,Nc,cb,csn,csub,cab,ccol,cdd,p0,p1,p2,p3,p5,mC,hC,hN,hin,hno⟩:=af4 I.kIn c.ini
 obtain ⟨oI,hfI,hfc⟩:=bw6 I.kIn c.fn
 obtain ⟨hh,gg,dd,tt,oo⟩:=s
 refine wpAny_call_exc_init PySem.F.excBase_Exception hC hN hin hfI hfc (fun h2 x m=>?_) hlen
 have fr:H x=none:=by
  cases z:H x with
  | none=>rfl
  | some u=>exact (r9.gone (I.hok x u z) m.new).elim
 obtain ⟨t,m1,_,_⟩:=m.there
 have I2:=Inv.laidF (s:=⟨hh,gg,dd,tt,oo⟩) (a:=x) (o:=xoO x C none) (t':=tt) I m.keeps m.new (bc2 (vs:=#[.ref t,.none,.none,.none,.bool false,.none]) m1 rfl)
 have r2:n9 (V.ref x::vs) (Value.ref x::us):=.cons rfl r
 have hq:=h x fr
 have hl:(Value.ref x::us++[]).length=ps.length:=by
  have e:=r2.length
  rw [F.len _ _ _ _ hq] at e
  rw [List.append_nil]
  exact e.symm
 have hbb:=hb { heap:=h2,gens:=gg,drawn:=dd,toks:=tt,os:=oo } (Value.ref x::us) I2.kIn hl
 rw [List.append_nil] at hbb
 refine wpAny_call (codeAny_mono (F.run _ X.stack { heap:=h2,gens:=gg,drawn:=dd,toks:=tt,os:=oo } _ ⟨Value.ref x::us,[]⟩ (Value.ref x::us) _ _ E (hr.make C us []) (I2.env0.make C us []) hbb r2 hq) fun res s' hq'=>?_)
 cases res with
 | error e=>exact hx pins σ _ _ e s' I2 hq'
 | ok fl =>
  cases fl with
  | next=>exact False.elim hq'
  | brk=>exact False.elim hq'
  | cont=>exact False.elim hq'
  | ret u =>
   have th:∀ b o,hh.get? b=some o->∃ o',s'.heap.get? b=some o':=fun b o q=>by
    obtain ⟨_,_,_,_,un,_⟩:=hq'
    exact un.there b o (m.keeps b o q) (by simp)
   obtain ⟨v,H3,I3,rv,ev,od,q1,q2⟩:=I2.after hq'
   subst ev
   exact ⟨show u=.none from rv,x,od,H3,rfl,I3,m.new,th,q1,q2⟩
theorem aF3 {M:Model}{A:Around}{E:Value->Shared->Prop}{env:Env}{v:Sem Value}{Q:Flow->Shared->Prop}{s:Shared}(hh:A.handled=none)
  (h:wpAny M A v (fun u s1=>∃ x od vs fI,u=.ref x/\(∃ names,XAt s1.heap C fI names)/\s1.heap.get? x=some ⟨.ref C,od,.fields vs,#[]⟩/\vs[1]?=some .none/\E (.ref x) s1) E s) :
  wpAny M A (raiseStmt env (some v) none) Q E s:=by
 unfold raiseStmt
 refine wpAny_bind (wpAny_mono h (fun u s1 h1=>?_) fun _ _ z=>z)
 obtain ⟨x,od,vs,fI,rfl,⟨names,cn,cq,Nc,cb,csn,csub,cab,ccol,cdd,p0,p1,p2,p3,p5,mC,hC,hN,hin,hno⟩,hx,hv1,hE⟩:=h1
 obtain ⟨h2,g,d,tk,os⟩:=s1
 have hcB:(Value.ref C::bmX).contains (.type "BaseException")=true:=by rw [List.contains_cons];rfl
 repeat (first
  | with_reducible refine wpAny_loadPart_at hx ?_
  | with_reducible refine wpAny_loadPart_at hC ?_
  | with_reducible refine wpAny_field hx rfl hv1 ?_
  | (with_reducible refine wpAny_isSubtype_exc hC ?_;rw [hcB])
  | wp_step)
 exact wpAny_raiseNew_none hh hE
end
section
variable {X:Cx}{E:XK}{c f:Str}{C fI:Addr}{fd:FuncData}{ps names:List Str}{sp:Sp}{k:Nat}{np cpos pos pos':Pos}{e o value:Expr}{es:List Expr}{t:TA}{ta tv:TE}
def bp7 (C:Addr)(sp:Sp)(E:XK)(t:TA):TS:=fun _ σ H=>t σ H fun vs H1=>vs.length<=sizeLine/\∀ x,H1 x=none->sp (.ref x::vs) (upd H1 x (xoO x C none)) (fun v H2=>v=.non/\∃ od,H2 x=some (xoO x C od)/\E (.ref C) od (del H2 x)) E
theorem aX4 (ht:Thr X E)(hex:X.ex=[])(hc:X.calm=true)(hg:Gl X c)(hm:X.mg c=some (.ref C))(hk:W.keepIn X.K (.ref C)=true)(xc:aD9 X.K C fI names)(F:l6 X.prog X.w X.K X.mg X.base (cxX X.prog X.w) k fI fd ps sp)(hr:C2 (k+1) X.A)(hb:P7 X.K fd ps [])
  (ha:PA X (e::es) t) (hd:(c == ("__debug__" : Str))=false:=by decide) (he:starEach (e::es) X.env=(false,eval e X.env)::starEach es X.env:=by rfl) (hpl:(backTo cpos (starEach es X.env)).any (·.1)=false:=by rfl) :
  PS X (.Raise (some (.Call (.Name c np) (e::es) [] cpos)) none pos) (bp7 C sp E t):=by
 intro pins s σ H D I hq
 rw [arm_exec_Raise]
 refine wpAny_bind (wpAny_standAt (aF3 (C:=C) (I.ok.hd hc) ?_))
 have core:wpAny (model X.prog X.w) X.A (eval (.Call (.Name c np) (e::es) [] cpos) X.env) (fun u s1=>∃ x od vs fI,u=.ref x/\(∃ names,XAt s1.heap C fI names)/\s1.heap.get? x=some ⟨.ref C,od,.fields vs,#[]⟩/\vs[1]?=some .none/\X.xe (.ref x) s1) X.xe s:=by
  refine wpAny_Call_Name_kw (X6 I hg hm ?_ hd)
  refine W.callWith_K (h₀:=X.base) I.ok.mod.kin hk (thn (ha cpos pins s σ H _ I hq) fun us s1 ⟨vs,H1,I1,r,hz,q⟩=>⟨I1.kIn,?_⟩) he hpl
  refine thn (aX0 (R:=fun x od H2=>E (.ref C) od (del H2 x)) xc F hr hb ht.pass I1 r (by show us.length<=sizeLine;rw [<-r.length];exact hz) q) fun u s2 ⟨x,od,H2,e1,I2,nx,th,q1,q2⟩=>?_
  obtain ⟨⟨vs',hx,hv⟩,_,_⟩:=(show r9 X.prog X.w H2 s2.heap x (xoO x C od) from I2.hok x _ q1)
  have I3:Inv X pins σ (del H2 x) s2:=I2.forget q1 ⟨(fun _ z=>nomatch z),(fun _ _ z=>nomatch z),(fun _ z=>nomatch z),(fun _ z=>nomatch z)⟩
  refine ⟨x,od,vs',fI,e1,⟨names,af4 I2.kIn xc.ini⟩,hx,hv,ht pins σ H1 s1 σ (del H2 x) s2 x (.ref C) od I1 I3 th ⟨at1,nx,_,vs',hx,rfl,rfl,rfl,.inl hv⟩ q2⟩
 first
  | exact wpAny_bind (thn core fun v s3 h3=>wpAny_bind (wpAny_standAt (wpAny_pure h3)))
  | (simp only [evalOpt,Option.map];exact wpAny_bind (thn core fun v s3 h3=>wpAny_bind (wpAny_standAt (wpAny_pure h3))))
def bO8 (C:Addr)(ta tv:TE)(f:Str):TS:=fun D σ H=>tv σ H fun y H1=>ta σ H1 fun x H2=>∃ a od fs,x=.ref a/\H2 a=some (xoO a C od)/\((od=none/\fs=[])\/∃ d,od=some d/\d≠a/\H2 d=some (xdO d fs))/\fs.length < 1000 /\
 ∀ d,((od=none/\H2 d=none)\/od=some d)->d≠a->D.nx σ (upd (upd H2 d (xdO d (z9 f y fs))) a (xoO a C (some d)))
theorem aR9 (xc:aD9 X.K C fI names)(hf:f∈names)(hB:typeLookup (.type "Exception") f=pure none)(ha:PE X o ta)(hv:PE X value tv)(hs:swapsWith value (some (.Attribute o f pos')) pos.line X.env=pure false):PS X (.Assign [.Attribute o f pos'] value pos) (bO8 C ta tv f):=by
 intro pins s σ H D I h
 refine plainObj_wpAny_Assign_Attribute (thn (hv pins s σ H _ I h) fun u s1 ⟨y,H1,I1,ry,q⟩=>thn (ha pins s1 σ H1 _ I1 q) fun ov s2 ⟨x,H2,I2,rx,a,od,fs,ex,ea,hd,l,q2⟩=>?_) hs
 subst ex
 obtain rfl:ov=Value.ref a:=rx
 exact aW6 I2 ea hd xc hf hB l ry fun s3 d e1 e2 I3=>⟨σ,_,I3,q2 d e1 e2⟩
end
end L2
set_option maxHeartbeats 2000000
namespace L2
open PySem PySem.Spec PyProof.Rows
def ai4 (K:W.Frag)(C:Addr):Bool:=match K.lookup C with
 | some ⟨.type "type",_,.cls cd,sl⟩=>(match cd.mro,sl.toList with
  | .ref C'::bm,[_,_,_,_,some (.builtin n),_]=>C' == C && n == "Exception.__new__" && !cd.hasDel && bm == bmX
  | _,_=>false)
 | _=>false
theorem aP6 {K:W.Frag}{h:Heap}{C:Addr}(X:K.In h)(q:ai4 K C=true):∃ cn cq Nc cb hd csn csub cab ccol cdd p0 p1 p2 p3 p5,h.get? C=some (excClassObj cn cq C Nc cb bmX hd csn csub cab ccol cdd p0 p1 p2 p3 p5 "Exception.__new__"):=by
 unfold ai4 at q
 split at q
 ·rename_i dd cd sl ho
  split at q
  ·rename_i C' bm k0 k1 k2 k3 n k5 hm hs
   simp only [Bool.and_eq_true,beq_iff_eq,Bool.not_eq_true'] at q
   obtain ⟨⟨⟨rfl,rfl⟩,hdel⟩,rfl⟩:=q
   obtain ⟨nm,bs,mro,ns,qn,hd,sn,sub,ab,col,del⟩:=cd
   dsimp only at hm hdel
   subst hm hdel
   have hsl:sl=#[k0,k1,k2,k3,some (.builtin "Exception.__new__"),k5]:=by
    obtain ⟨l⟩:=sl
    simp only at hs
    rw [hs]
   subst hsl
   exact ⟨nm,qn,ns,bs,hd,sn,sub,ab,col,dd,k0,k1,k2,k3,k5,X _ _ ho⟩
  ·cases q
 ·cases q
section
variable {M:Model}{A:Around}{E:Value->Shared->Prop}{h:Heap}{g:Array GenState}{d:Drawn}{t:Nat}{os:OsState}{x C D:Addr}{oe:Obj}{Q:Bool->Shared->Prop}
variable {cn cq:Str}{Nc:Addr}{cb:List Value}{hd:Bool}{csn:List Str}{csub:List Value}{cab:Bool}{ccol:Option Bool}{cdd:Option Addr}{p0 p1 p2 p3 p5:Option Value}{idn:String}
variable {dn dq:Str}{Nd:Addr}{db:List Value}{hd':Bool}{dsn:List Str}{dsub:List Value}{dab:Bool}{dcol:Option Bool}{ddd:Option Addr}{r0 r1 r2 r3 r5:Option Value}{idd:String}
theorem aY8 (hC:h.get? C=some (excClassObj cn cq C Nc cb bmX hd csn csub cab ccol cdd p0 p1 p2 p3 p5 idn))(hD:h.get? D=some (excClassObj dn dq D Nd db bmX hd' dsn dsub dab dcol ddd r0 r1 r2 r3 r5 idd))
  (hx:h.get? x=some oe) (hcl:oe.cls=.ref C) (hq:Q (decide (C=D)) ⟨h,g,d,t,os⟩):wpAny M A (excMatches (.ref x) (.ref D)) Q E ⟨h,g,d,t,os⟩:=by
 have hcB:(Value.ref D::bmX).contains (.type "BaseException")=true:=by rw [List.contains_cons];rfl
 have hcC:(Value.ref C::bmX).contains (.ref D)=decide (C=D):=by
  by_cases e:C=D
  ·subst e
   simp
  ·rw [decide_eq_false e,List.contains_cons]
   have:(Value.ref D == Value.ref C)=false:=by
    rw [beq_eq_false_iff_ne]
    intro z
    exact e (Value.ref.inj z).symm
   rw [this]
   rfl
 have f:=tc_notTuple
 unfold excMatches
 repeat (first
  | (with_reducible refine wpAny_loadPart_at hx ?_;rw [hcl])
  | (with_reducible refine wpAny_isSubtype_exc hD ?_;rw [hcB])
  | (with_reducible refine wpAny_isSubtype_exc hC ?_;rw [hcC])
  | with_reducible refine wpAny_loadPart_at hD ?_
  | wp_step)
 all_goals first
  | exact hq
  | (cases z:decide (C=D)<;>(rw [z] at hq;wp_walk;exact hq))
end
section
variable {X:Cx}{pins:List (Addr×Obj)}{σ σ₁:St}{H H₁:Hp}{s s₁:Shared}
theorem aJ1 {M:Model}{A:Around}{E':Value->Shared->Prop}{x:Addr}{cls:Value}{od:Option Addr}{Q:Unit->Shared->Prop}(hex:X.ex=[])(I₁:Inv X pins σ₁ H₁ s₁)(I:Inv X pins σ H s)(ks:∀ b o,s₁.heap.get? b=some o->∃ o',s.heap.get? b=some o')(f:Fly s₁.heap H s.heap x cls od)
  (h:∀ h',Inv X pins σ H { s with heap:=h' }->Fly s₁.heap H h' x cls od->(∀ b o,s₁.heap.get? b=some o->∃ o',h'.get? b=some o')->Q () { s with heap:=h' }):wpAny M A (setFlight (.ref x) none) Q E' s:=by
 obtain ⟨oe,vs,he,hc,hdd,hd,tb⟩:=id f.obj
 rcases tb with h1 | ⟨T,oT,ts,h1,hTe,hT,hdT,hsz,_,_⟩
 ·unfold setFlight
  refine wpAny_bind (wpAny_field he hd h1 ?_)
  rw [if_neg (by decide)]
  exact wpAny_pure (h s.heap I f ks)
 ·refine aT6 (fs:=[]) he hd h1 hTe hT hdT hsz fun h' N=>?_
  obtain ⟨I',f'⟩:=ac4 (fun b hb=>absurd hb (by simp)) hex I₁ I f he hd h1 N ks
  exact h h' I' f' fun b o q=>let ⟨o',q'⟩:=ks b o q;N.there b o' q'
abbrev Cx.hnd (X:Cx)(x:Addr)(pn:List (Addr×Obj)):Cx:={ X with A:=X.A.mark (some (.ref x)),calm:=false,pn:=pn++X.pn,xe:=fun _ _=>False }
theorem Cx.Ok.hnd {x:Addr}{pn:List (Addr×Obj)}(ok:X.Ok):(X.hnd x pn).Ok:=⟨ok.mod,ok.kind,ok.glob,ok.blt,ok.above,ok.inj,ok.has,ok.cab,(fun z=>Bool.noConfusion z),ok.frames,ok.stk,ok.exf,ok.bs,ok.bsz,ok.noex,ok.exfs,ok.funs,ok.frf⟩
theorem Inv.hnd {x:Addr}{pn:List (Addr×Obj)}(I:Inv X pins σ H s)(h:∀ p∈pn,s.heap.get? p.1=some p.2/\H p.1=none/\p.1≠X.env.locals/\p.1∉X.fs/\∀ v,p.2.data≠.cell v):Inv (X.hnd x pn) pins σ H s :=
 ⟨I.ok.hnd,I.os,I.bare,I.base,I.loc,I.cell,I.free,I.freeC,fun p hp=>by
  have hp:p∈(pn++X.pn)++pins:=hp
  rw [List.append_assoc] at hp
  rcases List.mem_append.mp hp with q | q
  ·exact h p q
  ·exact I.pin p q,I.hok,I.len⟩
theorem Inv.unhnd {x:Addr}{pn:List (Addr×Obj)}(ok:X.Ok)(I:Inv (X.hnd x pn) pins σ H s):Inv X pins σ H s :=
 ⟨ok,I.os,I.bare,I.base,I.loc,I.cell,I.free,I.freeC,fun p hp=>I.pin p (by
  show p∈(pn++X.pn)++pins
  rw [List.append_assoc]
  exact List.mem_append_right _ hp),I.hok,I.len⟩
abbrev Ret (Q:VK):aE0:={ nx:=fun _ _=>False,rt:=Q }
def ab7 (X:Cx)(hs:List ExceptHandler)(R:VK->XK):Prop:=∀ (pins:List (Addr×Obj)) (σ₁:St) (H₁:Hp) (s₁:Shared) (σ:St) (H:Hp) (s:Shared) (x C:Addr) (od:Option Addr) (Q:VK),Inv X pins σ₁ H₁ s₁->Inv X pins σ H s ->
 (∀ b o,s₁.heap.get? b=some o->∃ o',s.heap.get? b=some o')->Fly s₁.heap H s.heap x (.ref C) od->ai4 X.K C=true->R Q (.ref C) od H->wpAny (model X.prog X.w) X.A (handleBy (.ref x) X.env hs) (SP X pins (Ret Q)) X.xe s
theorem bm5:ab7 X [] (fun _ _ _ _=>False):=fun _ _ _ _ _ _ _ _ _ _ _ _ _ _ _ _ h=>h.elim
theorem ax8 {c:Str}{D:Addr}{np pos:Pos}{name:Option Str}{body:List Stmt}{rest:List ExceptHandler}{R Rh:VK->XK}(hex:X.ex=[])(hg:Gl X c)(hm:X.mg c=some (.ref D))(xd:ai4 X.K D=true)(hrest:ab7 X rest R)
  (hsuite:∀ (pins:List (Addr×Obj)) (σ₁:St) (H₁:Hp) (s₁:Shared) (σ:St) (H:Hp) (s:Shared) (x:Addr) (od:Option Addr) (Q:VK),Inv X pins σ₁ H₁ s₁->Inv X pins σ H s ->
   (∀ b o,s₁.heap.get? b=some o->∃ o',s.heap.get? b=some o')->Fly s₁.heap H s.heap x (.ref D) od->Rh Q (.ref D) od H ->
   codeAny (model X.prog X.w) (X.A.mark (some (.ref x))) (.handlers (.ref x) [.ExceptHandler none name body pos] X.env) (fun r s₂=>match r with
     | .ok f=>(match name with
      | none=>SP X pins (Ret Q) f s₂
      | some n=>wpAny (model X.prog X.w) X.A (do bindName X.env n .none;unbindBehindTheSuite X.env n pos) (fun _ s₃=>SP X pins (Ret Q) f s₃) X.xe s₂)
     | .error e=>cameBackBy (model X.prog X.w) X.A X.env X.xe e s₂) s)
  (hd:(c == ("__debug__" : Str))=false:=by decide) :
  ab7 X (.ExceptHandler (some (.Name c np)) name body pos::rest) (fun Q cls od H=>if cls=.ref D then Rh Q cls od H else R Q cls od H):=by
 intro pins σ₁ H₁ s₁ σ H s x C od Q I₁ I ks f xc hR
 refine wpAny_handleBy_cons (codeAny_handlers_test ?_) (by intro z;cases z)
 have I':Inv (X.hnd x []) pins σ H s:=I.hnd fun p hp=>absurd hp (by simp)
 refine X6 (X:=X.hnd x []) I' hg hm ?_ hd
 obtain ⟨oe,vs,he,hc,hdd,hdat,tb⟩:=id f.obj
 obtain ⟨a1,a2,a3,a4,a5,a6,a7,a8,a9,a10,a11,a12,a13,a14,a15,hC⟩:=aP6 I.kIn xc
 obtain ⟨b1,b2,b3,b4,b5,b6,b7,b8,b9,b10,b11,b12,b13,b14,b15,hD⟩:=aP6 I.kIn xd
 obtain ⟨hh,gg,dd,tt,oo⟩:=s
 refine aY8 hC hD he hc ?_
 by_cases e:C=D
 ·subst e
  rw [decide_eq_true rfl,if_pos rfl]
  rw [if_pos rfl] at hR
  exact hsuite pins σ₁ H₁ s₁ σ H _ x od Q I₁ I ks f hR
 ·rw [decide_eq_false e,if_neg (by decide)]
  rw [if_neg (fun z=>e (Value.ref.inj z))] at hR
  exact hrest pins σ₁ H₁ s₁ σ H _ x C od Q I₁ I ks f xc hR
theorem X7 {c:Str}{D:Addr}{np pos:Pos}{b:Stmt}{suite:List Stmt}{rest:List ExceptHandler}{R:VK->XK}{ts:TS}(hex:X.ex=[])(hg:Gl X c)(hm:X.mg c=some (.ref D))(xd:ai4 X.K D=true)(hrest:ab7 X rest R)
  (hs:∀ x,PSs (X.hnd x []) (b::suite) ts) (hd:(c == ("__debug__" : Str))=false:=by decide) :
  ab7 X (.ExceptHandler (some (.Name c np)) none (b::suite) pos::rest) (fun Q cls od H=>if cls=.ref D then ∀ σ,ts (Ret Q) σ H else R Q cls od H):=by
 refine ax8 (Rh:=fun Q cls od H=>∀ σ,ts (Ret Q) σ H) hex hg hm xd hrest (fun pins σ₁ H₁ s₁ σ H s x od Q I₁ I ks f hR=>?_) hd
 refine codeAny_handlers_suite (aJ1 hex I₁ I ks f fun h' I' f' ks'=>?_)
 refine wpAny_mono (hs x pins _ σ H (Ret Q) (I'.hnd fun p hp=>absurd hp (by simp)) (hR σ)) (fun fl s2 q=>?_) fun _ _ z=>z.elim
 cases fl with
 | next=>obtain ⟨_,_,_,z⟩:=q;exact z.elim
 | brk=>obtain ⟨_,_,_,z⟩:=q;exact z.elim
 | cont=>obtain ⟨_,_,_,z⟩:=q;exact z.elim
 | ret u=>obtain ⟨v,σ',H',J,r,z⟩:=q;exact ⟨v,σ',H',J.unhnd I.ok,r,z⟩
theorem Inv.gone {h':Heap}{m':Str->Option Value}{t':Nat}(I:Inv X pins σ H s)(hn:h'.Ns X.env.locals m')(hs:Heap.SameBut X.env.locals s.heap h'):Inv X pins (List.replicate X.N.length none) H { s with heap:=h',toks:=t' }:=by
 obtain ⟨m,⟨oL,_,_,hoL,_⟩,_⟩:=id I.loc
 refine ⟨I.ok,I.os,I.bare,⟨fun b o e n hb hx=>?_,fun b o e n hb hx=>?_,I.base.free,fun b o e hx=>?_,I.base.tups,I.base.frzs,I.base.tbls⟩,⟨m',hn,fun j y v e1 e2 e3=>?_⟩,fun y c e=>?_,I.free,I.freeC,fun p hp=>?_,fun b ob e=>?_,List.length_replicate⟩
 ·exact (hs.2 b (Nat.ne_of_lt (Nat.lt_of_lt_of_le (Heap.lt_size e) I.ok.above))).trans (I.base.keep b o e n hb hx)
 ·obtain ⟨sl,e1⟩:=I.base.slot b o e n hb hx
  exact ⟨sl,(hs.2 b (Nat.ne_of_lt (Nat.lt_of_lt_of_le (Heap.lt_size e) I.ok.above))).trans e1⟩
 ·obtain ⟨o',e1⟩:=I.base.there b o e hx
  exact ⟨o',(hs.2 b (Nat.ne_of_lt (Nat.lt_of_lt_of_le (Heap.lt_size e) I.ok.above))).trans e1⟩
 ·rw [List.getElem?_replicate] at e2
  split at e2<;>cases e2
 ·obtain ⟨w',z⟩:=I.cell y c e
  exact ⟨w',z.sameBut hs (I.cne y c e)⟩
 ·obtain ⟨e,n,ne,nf,d⟩:=I.pin p hp
  exact ⟨(hs.2 p.1 ne).trans e,n,ne,nf,d⟩
 ·refine (I.hok b ob e).stay (fun c w' hc q=>(hs.2 c ?_).trans q) (fun _ q=>q) fun _ _ q=>q
  rintro rfl
  rcases hc with hc | hc
  ·rw [<-hc,I.free] at e;cases e
  ·rw [I.free] at hc;cases hc
theorem bx1 {c n:Str}{D:Addr}{i:Nat}{np pos:Pos}{b:Stmt}{suite:List Stmt}{rest:List ExceptHandler}{R:VK->XK}{ts:Addr->Option Addr->TS}(hex:X.ex=[])(hst:X.stack=X.env::X.outer)(hN:X.N.Nodup)(hi:X.N[i]?=some n)(hl:X.env.scope.names.lookup n=some .local)(hg:Gl X c)(hm:X.mg c=some (.ref D))(xd:ai4 X.K D=true)(hrest:ab7 X rest R)
  (hs:∀ x oe vs,oe.cls=.ref D->oe.data=.fields vs->PSs (X.hnd x [(x,oe)]) (b::suite) (ts x oe.dict)) (hd:(c == ("__debug__" : Str))=false:=by decide) :
  ab7 X (.ExceptHandler (some (.Name c np)) (some n) (b::suite) pos::rest) (fun Q cls od H=>if cls=.ref D then ∀ σ x,σ[i]?=some (some (.ref x))->ts x od (Ret Q) σ H else R Q cls od H):=by
 refine ax8 (Rh:=fun Q cls od H=>∀ σ x,σ[i]?=some (some (.ref x))->ts x od (Ret Q) σ H) hex hg hm xd hrest (fun pins σ₁ H₁ s₁ σ H s x od Q I₁ I ks f hR=>?_) hd
 refine codeAny_handlers_suite_as (aJ1 hex I₁ I ks f fun h' I' f' ks'=>?_)
 have hiσ:i < σ.length:=by rw [I'.len];exact (List.getElem?_eq_some_iff.mp hi).1
 obtain ⟨oe,vs,he,hc,hdd,hdat,tb⟩:=id f'.obj
 have xa:=I₁.apart hex f'.new
 refine ac0 (v:=V.ref x) (u:=.ref x) I' hN hi (.inl hl) rfl (fun s2 I2 ⟨a,sb,ha⟩=>?_) (.inr hl)
 have hxa:x≠a:=by
  rcases ha with z | z
  ·rw [z];exact xa.2.1
  ·exact fun e=>xa.2.2.1 n a z e.symm
 have nfs:x∉X.fs:=fun hb=>by
  obtain ⟨_,o,ho,_⟩:=I₁.ok.funs.mem hb
  rw [xa.1] at ho;cases ho
 have J:Inv (X.hnd x [(x,oe)]) pins (σ.set i (some (.ref x))) H s2:=I2.hnd fun p hp=>by
  have:p=(x,oe):=by simpa using hp
  subst this
  exact ⟨(sb.2 x hxa).trans he,f'.free,xa.2.1,nfs,fun v z=>by rw [hdat] at z;cases z⟩
 refine wpAny_mono (hs x oe vs hc hdat pins s2 _ H (Ret Q) J (by rw [hdd];exact hR _ x (List.getElem?_set_self hiσ))) (fun fl s3 q=>?_) fun _ _ z=>z.elim
 cases fl with
 | next=>obtain ⟨_,_,_,z⟩:=q;exact z.elim
 | brk=>obtain ⟨_,_,_,z⟩:=q;exact z.elim
 | cont=>obtain ⟨_,_,_,z⟩:=q;exact z.elim
 | ret u =>
  obtain ⟨v,σ',H',J',r,z⟩:=q
  have J2:=J'.unhnd I.ok
  obtain ⟨m,hn,_⟩:=id J2.loc
  refine wpAny_nameGoes hl hn (by rw [I.ok.kind];rfl) fun h3 m3 n3 s3'=>?_
  exact ⟨v,_,H',J2.gone n3 s3',r,z⟩
abbrev Cx.tryb (X:Cx)(xe:Value->Shared->Prop)(pn:List (Addr×Obj)):Cx:={ X with xe:=xe,pn:=pn++X.pn }
theorem Cx.Ok.tryb {xe:Value->Shared->Prop}{pn:List (Addr×Obj)}(ok:X.Ok):(X.tryb xe pn).Ok :=
 ⟨ok.mod,ok.kind,ok.glob,ok.blt,ok.above,ok.inj,ok.has,ok.cab,ok.hd,ok.frames,ok.stk,ok.exf,ok.bs,ok.bsz,ok.noex,ok.exfs,ok.funs,ok.frf⟩
theorem Inv.tryb {xe:Value->Shared->Prop}(I:Inv X pins σ H s):Inv (X.tryb xe pins) [] σ H s :=
 ⟨I.ok.tryb,I.os,I.bare,I.base,I.loc,I.cell,I.free,I.freeC,fun p hp=>I.pin p (by
  have hp:p∈(pins++X.pn)++[]:=hp
  rw [List.append_nil] at hp
  rcases List.mem_append.mp hp with z | z
  ·exact List.mem_append_right _ z
  ·exact List.mem_append_left _ z),I.hok,I.len⟩
theorem Inv.untryb {xe:Value->Shared->Prop}{pins':List (Addr×Obj)}(ok:X.Ok)(I:Inv (X.tryb xe pins) pins' σ H s):Inv X pins σ H s :=
 ⟨ok,I.os,I.bare,I.base,I.loc,I.cell,I.free,I.freeC,fun p hp=>I.pin p (by
  show p∈(pins++X.pn)++pins'
  rcases List.mem_append.mp hp with z | z
  ·exact List.mem_append_left _ (List.mem_append_right _ z)
  ·exact List.mem_append_left _ (List.mem_append_left _ z)),I.hok,I.len⟩
theorem bE9 {body:List Stmt}{h0:ExceptHandler}{hs:List ExceptHandler}{pos:Pos}{R:VK->XK}{tb:XK->TS}(hst:X.stack=X.env::X.outer)(hfr:X.env.frame=some X.env.locals)(hex:X.ex=[])(hh:ab7 X (h0::hs) R)
  (hb:∀ (xe:Value->Shared->Prop) (pn:List (Addr×Obj)) (E':XK),Thr (X.tryb xe pn) E'->PassesOwn (model X.prog X.w) X.A X.env xe->PSs (X.tryb xe pn) body (tb E')) :
  PS X (.Try body (h0::hs) [] [] pos) (fun D σ H=>tb (fun cls od H'=>∃ C,cls=.ref C/\ai4 X.K C=true/\R D.rt cls od H') (Ret D.rt) σ H):=by
 intro pins s σ H D I h
 have up:∀ {fl:Flow}{s':Shared},SP X pins (Ret D.rt) fl s'->SP X pins D fl s':=fun {fl s'} q=>by
  cases fl with
  | next=>obtain ⟨_,_,_,z⟩:=q;exact z.elim
  | brk=>obtain ⟨_,_,_,z⟩:=q;exact z.elim
  | cont=>obtain ⟨_,_,_,z⟩:=q;exact z.elim
  | ret u=>exact q
 refine wpAny_Try_except ?_
 refine wpAny_mono (hb (fun e s1=>wpAny (model X.prog X.w) X.A (noteFrame e X.env) (fun _ s2=>wpAny (model X.prog X.w) X.A (setFlight e none) (fun _ s3=>wpAny (model X.prog X.w) X.A (handleBy e X.env (h0::hs)) (SP X pins D) X.xe s3) X.xe s2) X.xe s1) pins
  (fun cls od H'=>∃ C,cls=.ref C/\ai4 X.K C=true/\R D.rt cls od H') ?_ PassesOwn.looking [] s σ H (Ret D.rt) I.tryb h) (fun fl s' q=>?_) fun _ _ z=>z
 ·rintro pins' σ₁ H₁ s₁ σ' H' s' x cls od I₁ I' ks f ⟨C,rfl,xc,hR⟩
  have J₁:=I₁.untryb I.ok
  have J':=I'.untryb I.ok
  refine as6 hst hfr hex J₁ J' ks f fun h' I2 f2 ks2=>?_
  exact wpAny_mono (hh pins σ₁ H₁ s₁ σ' H' _ x C od D.rt J₁ I2 ks2 f2 xc hR) (fun fl s3 q=>up q) fun _ _ z=>z
 ·cases fl with
  | next=>obtain ⟨_,_,_,z⟩:=q;exact z.elim
  | brk=>obtain ⟨_,_,_,z⟩:=q;exact z.elim
  | cont=>obtain ⟨_,_,_,z⟩:=q;exact z.elim
  | ret u =>
   obtain ⟨v,σ',H',J,r,z⟩:=q
   exact ⟨v,σ',H',J.untryb I.ok,r,z⟩
end
end L2
set_option maxHeartbeats 2000000
namespace L2
open PySem PySem.Spec PyProof.Rows
structure Ext (M:List Addr)(G H G' H':Hp):Prop where
 sub0:j6 G H
 sub:j6 G' H'
 grow:j6 G G'
 keep:∀ b o,H b=some o->b∉M->H' b=some o
 there:∀ b o,H b=some o->∃ o',H' b=some o'
 fresh:∀ b o,G' b=some o->G b=some o\/H b=none
structure Own (G H:Hp)(p:Addr)(o:HO):Prop where
 at_:H p=some o
 fr:G p=none
section
variable {M M':List Addr}{G H G1 H1 G2 H2:Hp}{p:Addr}{o u:HO}
theorem Ext.refl (h:j6 G H):Ext M G H G H:=⟨h,h,j6.refl G,fun _ _ e _=>e,fun _ o e=>⟨o,e⟩,fun _ _ e=>.inl e⟩
theorem Ext.none_of (e:Ext M G H G1 H1)(h:H1 p=none):H p=none:=by
 cases q:H p with
 | none=>rfl
 | some o=>obtain ⟨o',z⟩:=e.there _ _ q;rw [h] at z;cases z
theorem Ext.trans (a:Ext M G H G1 H1)(b:Ext M G1 H1 G2 H2):Ext M G H G2 H2 where
 sub0:=a.sub0
 sub:=b.sub
 grow:=a.grow.trans b.grow
 keep:=fun c o e hc=>b.keep c o (a.keep c o e hc) hc
 there:=fun c o e=>let ⟨o',e'⟩:=a.there c o e;b.there c o' e'
 fresh:=fun c o e=>(b.fresh c o e).elim (a.fresh c o) fun z=>.inr (a.none_of z)
theorem Ext.mono (a:Ext M G H G1 H1)(h:∀ b∈M,b∈M'):Ext M' G H G1 H1:=⟨a.sub0,a.sub,a.grow,fun b o e hb=>a.keep b o e fun z=>hb (h b z),a.there,a.fresh⟩
theorem Ext.up (a:Ext [] G H G1 H1):Ext M G H G1 H1:=a.mono fun _ z=>absurd z (by simp)
theorem Ext.tr0 (a:Ext M G H G1 H1)(b:Ext [] G1 H1 G2 H2):Ext M G H G2 H2:=a.trans b.up
theorem Ext.same (a:Ext [] G H G1 H1):j6 H H1:=fun b o e=>a.keep b o e (by simp)
theorem Ext.lay (a:Ext M G H G1 H1)(h:H1 p=none):Ext M G H (upd G1 p o) (upd H1 p o) where
 sub0:=a.sub0
 sub:=fun b u e=>by
  by_cases q:b=p
  ·subst q;rw [c7] at e ⊢;exact e
  ·rw [d6 q] at e ⊢;exact a.sub b u e
 grow:=fun b u e=>by
  have ne:b≠p:=fun q=>by
   subst q
   have:=a.sub _ _ (a.grow _ _ e)
   rw [h] at this;cases this
  rw [d6 ne];exact a.grow b u e
 keep:=fun b u e hb=>by
  have ne:b≠p:=fun q=>by
   subst q
   rw [a.none_of h] at e;cases e
  rw [d6 ne];exact a.keep b u e hb
 there:=fun b u e=>by
  have ne:b≠p:=fun q=>by
   subst q
   rw [a.none_of h] at e;cases e
  rw [d6 ne];exact a.there b u e
 fresh:=fun b u e=>by
  by_cases q:b=p
  ·subst q;exact .inr (a.none_of h)
  ·rw [d6 q] at e;exact a.fresh b u e
theorem Ext.lend (a:Ext M G H G1 H1)(h:H1 p=none):Ext M G H G1 (upd H1 p o) where
 sub0:=a.sub0
 sub:=fun b u e=>by
  have ne:b≠p:=fun q=>by
   subst q
   have:=a.sub _ _ e
   rw [h] at this;cases this
  rw [d6 ne];exact a.sub b u e
 grow:=a.grow
 keep:=fun b u e hb=>by
  have ne:b≠p:=fun q=>by
   subst q
   rw [a.none_of h] at e;cases e
  rw [d6 ne];exact a.keep b u e hb
 there:=fun b u e=>by
  have ne:b≠p:=fun q=>by
   subst q
   rw [a.none_of h] at e;cases e
  rw [d6 ne];exact a.there b u e
 fresh:=a.fresh
theorem Ext.put (a:Ext M G H G1 H1)(h:H p=none\/p∈M)(f:G1 p=none):Ext M G H G1 (upd H1 p o) where
 sub0:=a.sub0
 sub:=fun b u e=>by
  have ne:b≠p:=fun q=>by
   subst q
   rw [f] at e;cases e
  rw [d6 ne];exact a.sub b u e
 grow:=a.grow
 keep:=fun b u e hb=>by
  have ne:b≠p:=fun q=>by
   subst q
   rcases h with h | h
   ·rw [h] at e;cases e
   ·exact hb h
  rw [d6 ne];exact a.keep b u e hb
 there:=fun b u e=>by
  by_cases q:b=p
  ·subst q;exact ⟨o,c7⟩
  ·rw [d6 q];exact a.there b u e
 fresh:=a.fresh
theorem Ext.freeze (a:Ext M G H G1 H1)(e:H1 p=some o)(h:H p=none):Ext M G H (upd G1 p o) H1 where
 sub0:=a.sub0
 sub:=fun b u z=>by
  by_cases q:b=p
  ·subst q;rw [c7] at z;rw [e];exact z
  ·rw [d6 q] at z;exact a.sub b u z
 grow:=fun b u z=>by
  have ne:b≠p:=fun q=>by
   subst q
   have:=a.sub0 _ _ z
   rw [h] at this;cases this
  rw [d6 ne];exact a.grow b u z
 keep:=a.keep
 there:=a.there
 fresh:=fun b u z=>by
  by_cases q:b=p
  ·subst q;exact .inr h
  ·rw [d6 q] at z;exact a.fresh b u z
theorem Own.ext (w:Own G H p o)(a:Ext M G H G1 H1)(h:p∉M):Own G1 H1 p o :=
 ⟨a.keep _ _ w.at_ h,by
  cases q:G1 p with
  | none=>rfl
  | some u =>
   rcases a.fresh _ _ q with z | z
   ·rw [w.fr] at z;cases z
   ·rw [w.at_] at z;cases z⟩
theorem Own.new (s:j6 G H)(h:H p=none):Own G (upd H p o) p o:=⟨c7,s.free h⟩
theorem Own.put (w:Own G H p o):Own G (upd H p u) p u:=⟨c7,w.fr⟩
end
abbrev Rl (α:Type):=Hp->V->α->Prop
def bo9 {α:Type}(R:Rl α):Prop:=∀ (G G':Hp) (v:V) (a:α),j6 G G'->R G v a->R G' v a
theorem j6.seqT {K:W.Frag}{H H':Hp}{a:Addr}{xs:List V}(e:j6 H H')(h:SqT K H a xs):SqT K H' a xs:=by
 rcases h with (h | ⟨o,h⟩) | h
 ·exact .inl (.inl (e _ _ h))
 ·exact .inl (.inr ⟨o,e _ _ h⟩)
 ·exact .inr h
def Fr (K:W.Frag):Rl Rat:=fun G v q=>∃ p,v=.ref p/\SqT K G p [.int q.num,.int q.den]
def h8 (b:List UInt8):List V:=b.map fun (c:UInt8)=>V.int (c.toNat:Int)
def Bs (K:W.Frag):Rl (List UInt8):=fun G v b=>∃ p,v=.ref p/\SqL K G p (h8 b)
def Ls (K:W.Frag){α:Type}(R:Rl α):Rl (List α):=fun G v l=>∃ p vs,v=.ref p/\SqL K G p vs/\Paired (R G) vs l
def Tp (K:W.Frag){α:Type}(R:Rl α):Rl (List α):=fun G v l=>∃ p vs,v=.ref p/\SqT K G p vs/\Paired (R G) vs l
theorem Fr.mono {K:W.Frag}:bo9 (Fr K):=fun _ _ _ _ s ⟨p,e,h⟩=>⟨p,e,s.seqT h⟩
theorem Bs.mono {K:W.Frag}:bo9 (Bs K):=fun _ _ _ _ s ⟨p,e,h⟩=>⟨p,e,s.seq h⟩
theorem Paired.map' {α β:Type}{F F':α->β->Prop}(hm:∀ a b,F a b->F' a b):∀ {l₁:List α}{l₂:List β},Paired F l₁ l₂->Paired F' l₁ l₂
 | _,_,.nil=>.nil
 | _,_,.cons h t=>.cons (hm _ _ h) (Paired.map' hm t)
theorem Tp.mono {K:W.Frag}{α:Type}{R:Rl α}(m:bo9 R):bo9 (Tp K R):=fun _ _ _ _ s ⟨p,vs,e,h,r⟩=>⟨p,vs,e,s.seqT h,Paired.map' (fun _ _ z=>m _ _ _ _ s z) r⟩
theorem aU6 {n:Nat}{x:Int}(h:Ma.B n x):Builtin.Int.intBits x<=n:=by
 unfold Builtin.Int.intBits
 by_cases h0:x=0
 ·subst h0;exact Nat.zero_le _
 ·rw [if_neg (by simpa using h0)]
  have hn:x.natAbs≠0:=by omega
  exact (Nat.log2_lt hn).mpr h
def CB (i j:Int):Prop:=Ma.B 67108864 i/\Ma.B 67108864 j
theorem CB.ok {i j:Int}(h:CB i j):IntMulOk i j:=by
 have h1:=aU6 h.1
 have h2:=aU6 h.2
 have e:Builtin.Int.intTooBig (Builtin.Int.intBits i+Builtin.Int.intBits j)=false:=by
  unfold Builtin.Int.intTooBig
  have:bitsLine=134217728:=by decide
  exact decide_eq_false (by omega)
 unfold IntMulOk
 rw [e]
 simp
section
variable {X:Cx}
theorem i7:OpR X (binaryOp .Mult) (rI CB fun i j=>.int (i*j)):=opI fun _ _ _ _ _ _ _ hc q=>mul_int q hc.ok
theorem as4:OpR X (inplaceOp .Mult) (rI CB fun i j=>.int (i*j)):=opI fun _ _ _ _ _ _ _ hc q=>imul_int q hc.ok
structure bM3 (X:Cx):Prop where
 tree:X.prog.given.tree=none
 stk:X.stack=X.env::X.outer
 gen:X.env.scope.isGenerator=false
 co:X.env.scope.isCoroutine=false
 dp:X.A.depth+Builtin.pylongFrames < recursionLimit
theorem aF5 {pins:List (Addr×Obj)}{σ:St}{H:Hp}{s:Shared}(d:bM3 X)(I:Inv X pins σ H s):PySem.PylongRoom (model X.prog X.w) X.A s :=
 PySem.PylongRoom.of I.nolimit d.dp (PySem.SeerAt.of (I.ok.mod.seer.keeps I.bk) d.tree (I.ok.frames.trans (congrArg some d.stk)) d.gen d.co I.ok.blt I.ok.glob)
theorem O9 (d:bM3 X):OpR X (binaryOp .FloorDiv) (rI (fun _ j=>j≠0) fun i j=>.int (i.fdiv j)):=by
 intro pins s σ H x y v u Q I rx ry h
 obtain ⟨i,j,rfl,rfl,hc,q⟩:=h
 obtain ⟨t,rfl⟩:=rx
 obtain ⟨t',rfl⟩:=ry
 exact floordiv_int hc ⟨.int _,H,I.tok _,⟨_,rfl⟩,q⟩ (.inr (aF5 d I))
end
def bS9 (t1 t2:TS):TS:=fun D σ H=>∃ R:L2.St->Hp->Prop,t1 { D with nx:=R } σ H/\∀ σ' H',R σ' H'->t2 D σ' H'
theorem M6 {X:Cx}{a:Stmt}{r:List Stmt}{t u:TS}(ha:PS X a t)(hr:PSs X r u):PSs X (a::r) (bS9 t u):=by
 intro pins s σ H D I ⟨R,h,h'⟩
 refine wpAny_execs_cons (thn (ha pins s σ H { D with nx:=R } I h) fun f s1 q=>?_)
 cases f with
 | next =>
  obtain ⟨σ',H',I',q⟩:=q
  exact hr pins s1 σ' H' D I' (h' _ _ q)
 | ret v=>exact q
 | brk=>exact q
 | cont=>exact q
structure Def (P:Program)(w:World)(K:W.Frag)(mg:Str->Option Value)(base:Heap)(k:Nat)(x:Str)(ps:List Str)(sp:Sp):Prop where
 ex:∃ f fd,l6 P w K mg base (cxX P w) k f fd ps sp/\mg x=some (.ref f)/\W.keepIn K (.ref f)=true/\P7 K fd ps []
section
variable {X:Cx}{k:Nat}{x:Str}{ps:List Str}{sp:Sp}{E:XK}{p pos:Pos}{e:Expr}{es:List Expr}{t:TA}
theorem d9 (D:Def X.prog X.w X.K X.mg X.base k x ps sp)(hr:C2 k X.A)(hx:B3 (cxX X.prog X.w) X E)(ha:PA X (e::es) t)(hg:Gl X x:=by rfl)(hdb:(x == ("__debug__" : Str))=false:=by decide)
  (he:starEach (e::es) X.env=(false,eval e X.env)::starEach es X.env:=by rfl) (hpl:(backTo pos (starEach es X.env)).any (·.1)=false:=by rfl) :
  PE X (.Call (.Name x p) (e::es) [] pos) (be5 sp [] E t):=by
 obtain ⟨f,fd,F,hm,hk,hb⟩:=D.ex
 exact bs6 F hr hg hm hk hb .nil hx ha hdb he hpl
end
section
variable {P:Program}{w:World}{K:W.Frag}{mg:Str->Option Value}{base:Heap}{N:List Str}{qual:Str}{scope:Scope}{f:Addr}{cd:Value}{A:Around}{outer:List Env}{s0:Shared}{H0:Hp}{E:XK}
theorem ao2 {k:Nat}(ht:P.given.tree=none)(hg:scope.isGenerator=false)(hc:scope.isCoroutine=false)(hr:C2 k (A.deeper (envOfC qual scope s0.heap.objs.size f cd))):bM3 (ah6 (cxX P w) P w K mg base N qual scope f cd A outer s0 H0 E) :=
 ⟨ht,rfl,hg,hc,by have:=hr.dp;show _+100 < _;show (A.deeper (envOfC qual scope s0.heap.objs.size f cd)).depth+100 < _;omega⟩
end
end L2
set_option maxHeartbeats 2000000
namespace L2
open PySem PySem.Spec PyProof.Rows
def sgn (x:Str):List V:=x.cps.toList.map fun c=>V.str ⟨#[c]⟩
theorem an8 (x:Str):(sgn x).length=x.cps.size:=by unfold sgn;rw [List.length_map];exact Array.length_toList
theorem aR0 {x:Str}{i c:Nat}(h:x.cps[i]?=some c):(sgn x)[i]?=some (.str ⟨#[c]⟩):=by
 unfold sgn
 rw [List.getElem?_map,Array.getElem?_toList,h];rfl
theorem bx3 {x:Str}{g:TG}{tb:TS}{D:aE0}{σ:L2.St}{H:Hp}(Pv:Nat->L2.St->Hp->Prop)(h0:Pv 0 σ H)
  (hs:∀ i y σ H,(sgn x)[i]?=some y->Pv i σ H->g y σ H fun σ2 H2=>tb { D with nx:=Pv (i+1),ct:=Pv (i+1),bk:=D.nx } σ2 H2) (hd:∀ σ H,Pv (sgn x).length σ H->D.nx σ H) :
  ∃ W:Nat->Nat->L2.St->Hp->Prop,(∃ m,W 0 m σ H)/\∀ i m σ H,W i m σ H ->
   ((Its x).stop i H/\D.nx σ H)\/((Its x).go i H/\∃ N:L2.St->Hp->Prop,(∀ σ' H',N σ' H'->∃ m',m' < m/\W (i+1) m' σ' H')/\∀ y H',(Its x).yld i H y H'->g y σ H' fun σ2 H2=>tb { D with nx:=N,ct:=N,bk:=D.nx } σ2 H2):=by
 refine ⟨fun i m σ H=>m=(sgn x).length - i/\i<=(sgn x).length/\Pv i σ H,⟨(sgn x).length,by simp,Nat.zero_le _,h0⟩,?_⟩
 rintro i m σ H ⟨rfl,hi,p⟩
 by_cases hlt:i < (sgn x).length
 ·refine .inr ⟨by rw [an8] at hlt;exact hlt,Pv (i+1),fun σ' H' p'=>⟨(sgn x).length - (i+1),by omega,rfl,hlt,p'⟩,fun y H' q=>?_⟩
  obtain ⟨e,c,hc,rfl⟩:=q
  subst e
  exact hs i _ σ _ (aR0 hc) p
 ·have e:i=(sgn x).length:=by omega
  subst e
  exact .inl ⟨by rw [an8];exact Nat.le_refl _,hd σ H p⟩
theorem bl2 {x:Str}{g:TG}{tt:TT}{te:TE}{vs:List Nat}{σ:L2.St}{H1:Hp}{D:Addr}{Qd:Hp->Prop}(Pv:Nat->Hp->Prop)(h0:Pv 0 (upd H1 D (.lst [])))
  (hs:∀ i y H,(sgn x)[i]?=some y->Pv i H->g y (J8 σ vs) H fun σ2 H2=>J8 σ2 vs=J8 σ vs/\tt σ2 H2 fun b H3 =>
   if b=true then te σ2 H3 fun y H4=>∃ acc,H4 D=some (.lst acc)/\acc.length < sizeLine/\Pv (i+1) (upd H4 D (.lst (acc++[y]))) else Pv (i+1) H3) (hd:∀ H,Pv (sgn x).length H->Qd H) :
  ∃ W:Nat->Nat->Hp->Prop,(∃ m,W 0 m (upd H1 D (.lst [])))/\∀ i m H,W i m H ->
   ((Its x).stop i H/\Qd H)\/((Its x).go i H/\∃ Nx:Hp->Prop,(∀ H',Nx H'->∃ m',m' < m/\W (i+1) m' H')/\∀ y H',(Its x).yld i H y H'->g y (J8 σ vs) H' fun σ2 H2=>J8 σ2 vs=J8 σ vs/\tt σ2 H2 fun b H3 =>
    if b=true then te σ2 H3 fun y H4=>∃ acc,H4 D=some (.lst acc)/\acc.length < sizeLine/\Nx (upd H4 D (.lst (acc++[y]))) else Nx H3):=by
 refine ⟨fun i m H=>m=(sgn x).length - i/\i<=(sgn x).length/\Pv i H,⟨(sgn x).length,by simp,Nat.zero_le _,h0⟩,?_⟩
 rintro i m H ⟨rfl,hi,p⟩
 by_cases hlt:i < (sgn x).length
 ·refine .inr ⟨by rw [an8] at hlt;exact hlt,Pv (i+1),fun H' p'=>⟨(sgn x).length - (i+1),by omega,rfl,hlt,p'⟩,fun y H' q=>?_⟩
  obtain ⟨e,c,hc,rfl⟩:=q
  subst e
  exact hs i _ _ (aR0 hc) p
 ·have e:i=(sgn x).length:=by omega
  subst e
  exact .inl ⟨by rw [an8];exact Nat.le_refl _,hd H p⟩
end L2
set_option maxHeartbeats 2000000
namespace PySem
open Sem (wp)
section
variable {prog:Program}{w:World}{A:Around}{E:Value->Shared->Prop}{s:Shared}{d:Addr}
theorem aH1 (hd:(d == sysModules)=false) :
  MeetsIn prog w (Builtin.«dict.__len__» ⟨[.ref d],[]⟩) (fun _ R s=>∃ o es ep,s.heap.get? d=some o/\o.data=.dict es ep/\R (.ok (.ret (.int (es.size:Nat) s.toks))) { s with toks:=s.toks+1 }) :=
 .of_wp fun A R s ⟨o,es,ep,ho,hdat,h⟩=>by
  show wpAny _ _ (dictSize d >>= _) _ _ s
  unfold dictSize
  refine wpAny_bind (wpAny_bind (wpAny_dictEntries ho hdat (wpAny_pure ?_)))
  show wpAny _ _ (Builtin.Dict.pendingCount d >>= _) _ _ s
  refine wpAny_bind (wpAny_pendingCount_other hd ?_)
  refine wpAny_ret_mkInt ?_
  rw [Nat.add_zero];exact h
theorem aN8 {o:Obj}{es:Array DictEntry}{ep:Nat}{Q:Value->Shared->Prop}(hd:(d == sysModules)=false)(ho:s.heap.get? d=some o)(hx:o.ExactDict)(hdat:o.data=.dict es ep)(hfit:(es.size:Int) < 2 ^ 63)
  (h:Q (.int (es.size:Nat) (s.toks+1)) { s with toks:=s.toks+1+1 }):wpAny (model prog w) A (Builtin.«len» ⟨[.ref d],[]⟩) (fun fin s'=>∃ r,fin=.done (.ret r)/\Q r s') E s:=by
 have ty:s.TypeIs (.ref d) "dict":=⟨o,ho,hx.1⟩
 unfold Builtin.«len»
 refine wpAny_bind (m:=oneArg "len" _) (wpAny_pure ?_)
 refine wpAny_bind (m:=callSpecial? (.ref d) (Str.ofString "__len__")) (wpAny_callSpecial?_slot (name:=Str.ofString "__len__") ty F.slot_dict_len
  (call_meetsIn F.slot_dict_len ty F.entry_dict_len (F.args_dict_len_1 _) (aH1 hd) ⟨o,es,ep,ho,hdat,?_⟩))
 show wpAny _ _ _ _ _ { s with toks:=s.toks+1 }
 refine wpAny_bind (wpAny_holding (wpAny_pure ?_))
 refine wpAny_bind (wpAny_letGo ?_)
 show wpAny _ _ (if ((es.size:Nat):Int) < 0 then _ else _) _ _ _
 rw [if_neg (by omega)]
 show wpAny _ _ (if ((es.size:Nat):Int) ≥ 2 ^ 63 then _ else _) _ _ _
 rw [if_neg (by omega)]
 exact wpAny_bind (wpAny_mkInt (wpAny_pure ⟨_,rfl,h⟩))
theorem aO9 {o:Obj}{es:Array DictEntry}{ep:Nat}{Q:Value->Shared->Prop}(hd:(d == sysModules)=false)(ho:s.heap.get? d=some o)(hx:o.ExactDict)(hdat:o.data=.dict es ep)(hfit:(es.size:Int) < 2 ^ 63)
  (h:Q (.int (es.size:Nat) (s.toks+1)) { s with toks:=s.toks+1+1 }):wpAny (model prog w) A (call (.builtin "len") [.ref d]) Q E s :=
 Calls.call_function_entry kind_len plain_len entry_len (args_len1 _) (aN8 hd ho hx hdat hfit h)
end
end PySem
namespace L2
open PySem PySem.Spec PyProof.Rows
theorem ay3 {X:Cx}:am5 X (.builtin "len") (fun xs H Q=>∃ a kvs,xs=[V.ref a]/\H a=some (.dT kvs)/\Q (.int (kvs.length:Nat)) H):=by
 intro pins s σ H xs us Q I r h
 obtain ⟨a,kvs,rfl,ha,q⟩:=h
 obtain ⟨u,rfl,ru⟩:=av2 r
 cases ru
 obtain ⟨z,y,xs,rel,o,es,ep,h1,h2,h3,h4,h5⟩:=(show r9 X.prog X.w H s.heap a (.dT kvs) from I.hok a _ ha)
 have hl:es.size=kvs.length:=by rw [size_of_entries h4];exact (Paired.length rel).symm
 refine aO9 y h1 h2 h3 (by rw [hl];rw [sizeLine_eq] at z;omega) ?_
 rw [hl]
 exact ⟨.int (kvs.length:Nat),H,(I.tok _).tok _,⟨_,rfl⟩,q⟩
end L2
set_option maxHeartbeats 2000000
namespace L2
open PySem PySem.Spec PyProof.Rows TL
section
variable {X:Cx}{a b:Expr}{ta tb:TE}{pos p1 p2 p3:Pos}
theorem ax1:MtR X "int.bit_length" (fun x xs H Q=>∃ i,x=.int i/\xs=[]/\Q (.int ((Builtin.Int.intBits i:Nat):Int)) H):=by
 intro pins s σ H x xs v us Q I rx r h
 obtain ⟨i,rfl,rfl,q⟩:=h
 obtain ⟨t,rfl⟩:=rx
 cases r
 exact call_int_bit_length ⟨.int _,H,I.tok _,⟨_,rfl⟩,q⟩
theorem Inv.dig {pins:List (Addr×Obj)}{σ:L2.St}{H:Hp}{s:Shared}(I:Inv X pins σ H s):s.heap.NoDigits:=I.ok.mod.digits.keeps I.bk
theorem ba8 (hc:X.calm=true):am5 X (.type "str") (fun xs H Q=>∃ i:Int,xs=[.int i]/\i.natAbs < 10 ^ 4300/\Q (.str (Str.ofString (toString i))) H):=by
 intro pins s σ H xs us Q I r h
 obtain ⟨i,rfl,hz,q⟩:=h
 obtain ⟨u,rfl,t,rfl⟩:=av2 r
 exact str_of_int_or (I.ok.hd hc) I.dig (fun _=>⟨.str _,H,I.tok _,⟨_,rfl⟩,q⟩) (fun hge=>absurd hz (Nat.not_lt.mpr hge))
def tFs (x:Str)(ta tb:TE):TE:=fun σ H Q=>ta σ H fun u H1=>∃ i:Int,u=.int i/\i.natAbs < 10 ^ 4300/\(Str.ofString (toString i)).length+x.length<=sizeLine/\tb σ H1 fun v H2=>∃ k:Int,v=.int k/\k.natAbs < 10 ^ 4300/\(Str.ofString (toString i)).length+x.length+(Str.ofString (toString k)).length<=sizeLine /\
 Q (.str (Str.ofString (toString i)++x++Str.ofString (toString k))) H2
theorem ac5 (y:Str):Str.empty++y=y:=by
 refine bK9 ?_
 rw [U1];rfl
theorem bP3 {x:Str}{j:Nat}(hc:X.calm=true)(ha:PE X a ta)(hb:PE X b tb) :
  PE X (.JoinedStr [.FormattedValue a (-1) none p1,.Constant (.str x) j p2,.FormattedValue b (-1) none p3] pos) (tFs x ta tb):=by
 intro pins s σ H Q I h
 refine wpAny_JoinedStr ?_
 show wpAny _ _ (eval (.FormattedValue a (-1) none p1) X.env) _ _ s
 refine wpAny_FormattedValue_plain (thn (ha pins s σ H _ I h) fun u s1 ⟨xu,H1,I1,r1,i,hi,hlt,hl0,q1⟩=>?_)
 subst hi
 obtain ⟨t,rfl⟩:=r1
 refine formatField_int (I1.ok.hd hc) I1.dig (fun _=>?_) (fun hge=>absurd hlt (Nat.not_lt.mpr hge))
 refine ⟨_,_,rfl,?_,?_⟩
 ·rw [ac5];exact int_text_fits10 hlt
 have I2:=(I1.tok (s1.toks+1+1))
 show wpAny _ _ (eval (.Constant (.str x) j p2) X.env) _ _ _
 refine Calls.Constant_str ?_
 refine ⟨_,_,rfl,?_,?_⟩
 ·rw [ac5,strLen_append]
  exact hl0
 show wpAny _ _ (eval (.FormattedValue b (-1) none p3) X.env) _ _ _
 have I3:=I2.tok (s1.toks+1+1+1)
 refine wpAny_FormattedValue_plain (thn (hb pins _ σ H1 _ I3 q1) fun v s4 ⟨xv,H4,I4,r4,k,hk,hlk,hlen,q4⟩=>?_)
 subst hk
 obtain ⟨t4,rfl⟩:=r4
 refine formatField_int (I4.ok.hd hc) I4.dig (fun _=>?_) (fun hge=>absurd hlk (Nat.not_lt.mpr hge))
 refine ⟨_,_,rfl,?_,?_⟩
 ·rw [ac5,strLen_append,strLen_append];exact hlen
 ·rw [ac5]
  refine ⟨by rw [strLen_append,strLen_append];exact hlen,.str _,H4,?_,⟨_,rfl⟩,q4⟩
  exact ((I4.tok (s4.toks+1+1))).tok _
end
theorem az6 (i:Int):tl (Str.ofString (toString i))=Ma.au6 i:=by
 unfold Ma.au6
 by_cases h:i < 0
 ·rw [if_pos h,toString_neg h]
  have e:(0:Int) - i=((i.natAbs:Nat):Int):=by omega
  rw [e,ak9,String.toList_append,List.map_append]
  have e2:=aK8 i.natAbs
  rw [ak9] at e2
  rw [e2];rfl
 ·rw [if_neg h]
  have e:i=((i.natAbs:Nat):Int):=by omega
  rw [e]
  exact aK8 _
end L2
set_option maxHeartbeats 4000000
namespace L2
open PySem PySem.Spec PyProof.Rows
section
variable {M:Model}{A:Around}{E:Value->Shared->Prop}{s:Shared}
theorem au4 {x:Value}{e1 e2:Env}(h:e1.frame=e2.frame):noteFrame x e1=noteFrame x e2:=by
 unfold noteFrame PySem.frameOf
 rw [h]
theorem bn3 {base:Heap}{env:Env}{outer:List Env}{L x:Addr}{oe:Obj}{vs:Array Value}{head:Value}{hadNext:Bool}{Q:Unit->Shared->Prop}
  (hfr:A.frames=some (env::outer)) (hl:s.heap.FunFrames base (env::outer)) (hf:env.frame=some L)
  (he:s.heap.get? x=some oe) (hd:oe.data=.fields vs) (hsz:1 < vs.size)
  (h:∀ h',at7 ((env::outer).filterMap (·.frame)) x oe .none s.heap h'->Q () { s with heap:=h' }) :
  wpAny M A (do let a ← frameOf env;let pl ← entryPlaceOf L hadNext;let b ← EntryCells.newEntry head a .none (rawInt L) .none pl;setField (.ref x) 1 b) Q E s:=by
 have hene:x∉(env::outer).filterMap (·.frame):=fun hm=>by
  obtain ⟨_,o,ho,hnf⟩:=hl.mem hm
  rw [he] at ho;injection ho with ho;subst ho;exact hnf vs hd
 refine wpAny_bind (wpAny_frameOf_fun hfr hl hf fun h₁ hs₁=>?_)
 refine wpAny_bind (wpAny_entryPlaceOf fun pl hpl=>?_)
 unfold EntryCells.newEntry newFields
 refine wpAny_bind (wpAny_newObj_type ?_ (hpl.sizeOk5 _ _ _ _ _))
 have he₁:h₁.get? x=some oe:=(hs₁.2.1 x hene).trans he
 have he₂:=Heap.get?_push_of_some (h:=h₁) { cls:=.type "traceback",dict:=none,data:=.fields ([head,.ref L,.none,rawInt L,.none]++(if pl.isEmpty then List.replicate 6 Value.none else pl)).toArray } he₁
 have hTe:h₁.objs.size≠x:=Nat.ne_of_gt (Heap.lt_size he₁)
 have hd₃:=Obj.data_mapFields hd (·.setIfInBounds 1 (Value.ref h₁.objs.size))
 have he₃:=Heap.get?_update_self (Obj.mapFields (·.setIfInBounds 1 (Value.ref h₁.objs.size))) he₂ (Obj.isFreed_of_fields hd₃)
 have hT₃:=(Heap.get?_update_other (h₁.push { cls:=.type "traceback",dict:=none,data:=.fields ([head,.ref L,.none,rawInt L,.none]++(if pl.isEmpty then List.replicate 6 Value.none else pl)).toArray })
  (Obj.mapFields (·.setIfInBounds 1 (Value.ref h₁.objs.size))) (Ne.symm hTe)).trans (Heap.get?_push_size h₁ rfl)
 refine wpAny_setField he₂ hd hsz (h _ ?_)
 have keep:∀ b o,b≠x->h₁.get? b=some o ->
   ((h₁.push { cls:=.type "traceback",dict:=none,data:=.fields ([head,.ref L,.none,rawInt L,.none]++(if pl.isEmpty then List.replicate 6 Value.none else pl)).toArray }).update x (Obj.mapFields (·.setIfInBounds 1 (Value.ref h₁.objs.size)))).get? b=some o:=fun b o hbe hb=>by
  rw [Heap.get?_update_other _ _ (Ne.symm hbe)]
  exact Heap.get?_push_of_some _ hb
 refine ⟨⟨_,_,h₁.objs.size,_,_,he₃,Obj.cls_mapFields _ _,?_,hd₃,by simp [hsz],hTe,hT₃,rfl,?_,.inl ?_⟩,fun b o hb _ hbf e=>keep b o hb ((hs₁.2.1 b hbf).trans e),fun b o hb _ e=>?_,fun b o e=>?_⟩
 ·obtain ⟨c,d,dt,sl⟩:=oe;cases dt<;>rfl
 ·simp only [List.size_toArray,List.length_append,List.length_cons,List.length_nil];omega
 ·exact Heap.get?_none_of_le (by rw [hs₁.1];exact Nat.le_refl _)
 ·obtain ⟨sl,hs⟩:=hs₁.2.2 b o e
  exact ⟨sl,keep b _ hb hs⟩
 ·by_cases hb:b=x
  ·subst hb;exact ⟨_,he₃⟩
  ·obtain ⟨sl,hs⟩:=hs₁.2.2 b o e
   exact ⟨_,keep b _ hb hs⟩
theorem bx4 {x T:Addr}{oe oT:Obj}{vs ts:Array Value}{fs:List Addr}{fr:Option Addr}{Q:Unit->Shared->Prop}(he:s.heap.get? x=some oe)(hd:oe.data=.fields vs)(h1:vs[1]?=some (.ref T))(hTe:T≠x)
  (hT:s.heap.get? T=some oT) (hdT:oT.data=.fields ts) (hsz:3 < ts.size) (h:∀ h',at7 fs x oe (.ref T) s.heap h'->Q () { s with heap:=h' }):wpAny M A (setFlight (.ref x) fr) Q E s:=by
 unfold setFlight
 refine wpAny_bind (wpAny_field he hd h1 ?_)
 rw [if_pos (show (Value.ref T != Value.none)=true from by simp)]
 have other:∀ b,b≠T->(s.heap.update T (Obj.mapFields (·.setIfInBounds 3 (fr.elim Value.none fun f=>rawInt f)))).get? b=s.heap.get? b :=
  fun b hb=>Heap.get?_update_other _ _ (Ne.symm hb)
 have self':=Heap.get?_update_self (Obj.mapFields (·.setIfInBounds 3 (fr.elim Value.none fun f=>rawInt f))) hT (Obj.isFreed_of_fields (Obj.data_mapFields hdT _))
 refine wpAny_setField hT hdT hsz (h _ ⟨⟨oe,vs,T,_,_,(other x (Ne.symm hTe)).trans he,rfl,rfl,hd,h1,hTe,self',Obj.data_mapFields hdT _,by rw [Array.size_setIfInBounds];exact hsz,.inr rfl⟩,fun b o hb ho _ e=>(other b fun q=>ho (by rw [q])).trans e,fun b o hb ho e=>⟨o.slots,(other b fun q=>ho (by rw [q])).trans e⟩,fun b o e=>?_⟩)
 by_cases hb:b=T
 ·subst hb;exact ⟨_,self'⟩
 ·exact ⟨o,(other b hb).trans e⟩
theorem bQ5 {base:Heap}{env:Env}{outer:List Env}{L x:Addr}{oe:Obj}{vs:Array Value}{Q:Unit->Shared->Prop}
  (hfr:A.frames=some (env::outer)) (hl:s.heap.FunFrames base (env::outer)) (hf:env.frame=some L)
  (he:s.heap.get? x=some oe) (hd:oe.data=.fields vs) (h1:bS3 s.heap x vs)
  (h:∀ h' old,vs[1]?=some old->at7 ((env::outer).filterMap (·.frame)) x oe old s.heap h'->Q () { s with heap:=h' }) :
  wpAny M A (noteFrame (.ref x) env) Q E s:=by
 rcases h1 with h1 | ⟨T,oT,ts,h1,hTe,hT,hdT,hsz⟩
 ·unfold noteFrame
  simp only [hf]
  refine wpAny_bind (wpAny_field he hd h1 ?_)
  rw [if_neg (by decide)]
  exact bn3 hfr hl hf he hd (Array.getElem?_eq_some_iff.mp h1).1 fun h' n=>h h' _ h1 n
 ·by_cases hr:(ts[3]'hsz == rawInt L)=true
  ·unfold noteFrame
   simp only [hf]
   refine wpAny_bind (wpAny_field he hd h1 ?_)
   rw [if_pos (show (Value.ref T != Value.none)=true from by simp)]
   refine wpAny_bind (wpAny_field hT hdT (Array.getElem?_eq_getElem hsz) ?_)
   rw [if_pos hr]
   refine wpAny_pure (h s.heap _ h1 ⟨⟨oe,vs,T,oT,ts,he,rfl,rfl,hd,h1,hTe,hT,hdT,hsz,.inr rfl⟩,fun b o _ _ _ e=>e,fun b o _ _ e=>⟨o.slots,e⟩,fun b o e=>⟨o,e⟩⟩)
  ·unfold noteFrame
   simp only [hf]
   refine wpAny_bind (wpAny_field he hd h1 ?_)
   rw [if_pos (show (Value.ref T != Value.none)=true from by simp)]
   refine wpAny_bind (wpAny_field hT hdT (Array.getElem?_eq_getElem hsz) ?_)
   rw [if_neg hr]
   refine wpAny_bind (wpAny_setField hT hdT hsz ?_)
   have other:∀ b,b≠T->(s.heap.update T (Obj.mapFields (·.setIfInBounds 3 Value.none))).get? b=s.heap.get? b:=fun b hb=>Heap.get?_update_other _ _ (Ne.symm hb)
   have self':=Heap.get?_update_self (Obj.mapFields (·.setIfInBounds 3 Value.none)) hT (Obj.isFreed_of_fields (Obj.data_mapFields hdT _))
   have noRecord:∀ b o,s.heap.get? b=some o->(∀ vs,o.data≠.fields vs)->b≠T:=fun b o hb hnf q=>by
    rw [q,hT] at hb;injection hb with hb;subst hb;exact hnf ts hdT
   have back:∀ b o,s.heap.get? b=some o->∃ o',(s.heap.update T (Obj.mapFields (·.setIfInBounds 3 Value.none))).get? b=some o':=fun b o e=>by
    by_cases hb:b=T
    ·subst hb;exact ⟨_,self'⟩
    ·exact ⟨o,(other b hb).trans e⟩
   refine bn3 (s:={ s with heap:=s.heap.update T (Obj.mapFields (·.setIfInBounds 3 Value.none)) }) hfr (hl.of_keeps fun b o hb hnf=>⟨o,(other b (noRecord b o hb hnf)).trans hb,rfl⟩) hf ((other x (Ne.symm hTe)).trans he) hd (Array.getElem?_eq_some_iff.mp h1).1 fun h' n=>h h' (.ref T) h1 ?_
   obtain ⟨n1,n2,n3,n4⟩:=n
   refine ⟨?_,fun b o hb ho hbf e=>n2 b o hb (by intro q;cases q) hbf ((other b fun q=>ho (by rw [q])).trans e),fun b o hb ho e=>n3 b o hb (by intro q;cases q) ((other b fun q=>ho (by rw [q])).trans e),fun b o e=>let ⟨o',e'⟩:=back b o e;n4 b o' e'⟩
   obtain ⟨oe',vs',T',oT',ts',q1,q2,q3,q4,q5,q6,q7,q8,q9,q10⟩:=n1
   refine ⟨oe',vs',T',oT',ts',q1,q2,q3,q4,q5,q6,q7,q8,q9,?_⟩
   rcases q10 with q | q
   ·refine .inl ?_
    cases z:s.heap.get? T' with
    | none=>rfl
    | some o =>
     obtain ⟨o',e'⟩:=back _ _ z
     have q':(s.heap.update T (Obj.mapFields (·.setIfInBounds 3 Value.none))).get? T'=none:=q
     rw [e'] at q';cases q'
   ·cases q
end
section
variable {X:Cx}
theorem bl3 {E:XK}{pins:List (Addr×Obj)}{s:Shared}{σ:St}{H:Hp}{Q:VK}{elt tg iter:Expr}{ifs:List Expr}{scope:Scope}{own:List (Str×Nat)}{pos pos':Pos}{wi:TI}{g:TG}{tt:TT}{te:TE}{use:Option (Value->Sem Unit)}{Qf:Value->Shared->Prop}
  (hT:Thr X E) (hst:X.stack=X.env::X.outer) (hfr:X.env.frame=some X.env.locals) (hex:X.ex=[]) (hc:X.calm=true) (hN:X.N.Nodup) (I:Inv X pins σ H s) (hi:PI X tg iter wi) (ok:au0 X.N X.env.scope scope own)
  (hg:∀ (s:Shared) (H:Hp) (C:Addr) (cl:List (Str×Addr)) (fp:List Addr),PG (X.blk s H scope (compEnvC scope cl C X.env) fp) tg g) (ht:∀ (s:Shared) (H:Hp) (C:Addr) (cl:List (Str×Addr)) (fp:List Addr),PTs (X.blk s H scope (compEnvC scope cl C X.env) fp) ifs tt)
  (he:∀ (s:Shared) (H:Hp) (C:Addr) (cl:List (Str×Addr)) (fp:List Addr) (xe:Value->Shared->Prop) (pn:List (Addr×Obj)),B3 (cxX X.prog X.w) ((X.blk s H scope (compEnvC scope cl C X.env) fp).tryb xe pn) E->PE ((X.blk s H scope (compEnvC scope cl C X.env) fp).tryb xe pn) elt te) (hs:∀ x,foldedSetIterable iter X.env x=pure x)
  (h:tLc wi g tt te (own.map (·.2)) σ H Q)
  (hRR:∀ D C s' m H',Inv X pins σ H' s'->Q (.ref D) H'->s'.heap.Ns C m->Y9 X pins H' C->compPost (model X.prog X.w) X.A X.xe use Qf (.ref D) C (.ok .next) s') :
  wpAny (model X.prog X.w) X.A (comprehension (.ListComp elt [⟨tg,iter,ifs,0⟩] scope pos) scope X.env pos' (newList []) false (eval iter X.env) use) Qf X.xe s:=by
 have hfree:∀ y∈scope.names,y.2=.free->∃ c,X.env.cells.lookup y.1=some c:=fun y hy e=>by
  rcases ok.free y hy e with k | k
  ·exact I.ok.has _ (.inl k)
  ·exact I.ok.has _ (.inr k)
 refine wpAny_comprehension_free (use:=use) rfl hs (at4 hfree) ok.kind (fun y hy e=>by rw [ok.uniq y hy,e])
  (thn (hi pins s σ H _ I h) fun xv s1 hx=>thn hx fun itv s2 h2=>?_)
 obtain ⟨it,fp,tn,J,H2,e,I2,T,st2,f2,q⟩:=h2
 subst e
 refine wpAny_newObj_type (al6 ?_) (by show 0<=sizeLine;decide)
 generalize hD:s2.heap.objs.size=D
 have hDn:H2 D=none:=I2.hok.fresh (Nat.le_of_eq hD)
 obtain ⟨W,⟨m0,w0⟩,turn⟩:=q D hDn
 generalize hs3:({ s2 with heap:=s2.heap.push { cls:=.type "list",data:=.seq ([]:List Value).toArray } }:Shared)=s3
 have I3:Inv X pins σ (upd H2 D (.lst [])) s3:=by
  rw [<-hs3]
  refine I2.laid (t':=s2.toks) (fun b o e=>Heap.get?_push_of_some _ e) (Nat.le_of_eq hD) ⟨Nat.zero_le _,[],0,.nil,?_⟩
  rw [<-hD]
  exact Heap.get?_push_size _ rfl
 have h3:s3.heap=s2.heap.push { cls:=.type "list",data:=.seq ([]:List Value).toArray }:=by rw [<-hs3]
 have sz:∀ b∈fp,b < s2.heap.objs.size:=fun b hb=>by
  obtain ⟨o,e,_⟩:=T.obj _ _ st2 b hb
  exact Heap.lt_size e
 have f3:∀ b∈fp,Y9 X pins (upd H2 D (.lst [])) b/\b < s3.heap.objs.size:=fun b hb=>by
  have hlt:=sz b hb
  refine ⟨⟨?_,(f2 b hb).2⟩,by rw [h3,Heap.size_push];exact Nat.lt_succ_of_lt hlt⟩
  rw [d6 (by rw [<-hD];exact Nat.ne_of_lt hlt)]
  exact (f2 b hb).1
 have st3:tn 0 s3.heap:=T.keep _ _ _ st2 fun b _ o e=>by rw [h3];exact Heap.get?_push_of_some _ e
 have I4:=am4 I3 ok hN f3
 have pg:=hg s3 (upd H2 D (.lst [])) s3.heap.objs.size (cellsFrom (s3.heap.objs.size+1) scope.names (t8 X.env.cells scope.names [])) fp
 have pt:=ht s3 (upd H2 D (.lst [])) s3.heap.objs.size (cellsFrom (s3.heap.objs.size+1) scope.names (t8 X.env.cells scope.names [])) fp
 have pe:=he s3 (upd H2 D (.lst [])) s3.heap.objs.size (cellsFrom (s3.heap.objs.size+1) scope.names (t8 X.env.cells scope.names [])) fp
 show codeAny _ _ (.compStart (.ListComp elt [⟨tg,iter,ifs,0⟩] scope pos) 0 (.ref it) (.ref D) (compEnvC scope (cellsFrom (s3.heap.objs.size+1) scope.names (t8 X.env.cells scope.names [])) s3.heap.objs.size X.env)) (compPost (model X.prog X.w) X.A X.xe use Qf (.ref D) s3.heap.objs.size) { s3 with heap:=pushCells (s3.heap.push { cls:=.type "dict",data:=.dict #[] }) scope.names }
 have nfp:∀ b∈fp,(upd H2 D (.lst [])) b=none:=fun b hb=>(f3 b hb).1.1
 generalize hce:compEnvC scope (cellsFrom (s3.heap.objs.size+1) scope.names (t8 X.env.cells scope.names [])) s3.heap.objs.size X.env=ce at I4 pg pt pe ⊢
 have cL:ce.locals=s3.heap.objs.size:=by subst hce;rfl
 generalize hH3:upd H2 D (.lst [])=H3 at I3 I4 pg pt pe w0 nfp f3
 generalize hs4:({ s3 with heap:=pushCells (s3.heap.push { cls:=.type "dict",data:=.dict #[] }) scope.names }:Shared)=s4 at I4 ⊢
 have st4:tn 0 s4.heap:=T.keep _ _ _ st3 fun b _ o e=>by rw [<-hs4];exact pushCells_keeps _ _ _ _ (Heap.get?_push_of_some _ e)
 have stat:∀ {σ':St}{H':Hp}{s':Shared},Inv (X.blk s3 H3 scope ce fp) [] σ' H' s'->(∀ b∈fp,H' b=none)->∀ b∈fp,Y9 (X.blk s3 H3 scope ce fp) [] H' b:=fun {σ' H' s'} I' hn b hb =>
  ⟨hn b hb,(I'.ok.exf b hb).1,I'.ok.exfs b hb,.inl hb,fun x c e=>(I'.ok.exf b hb).2 x c e,fun p hp=>absurd (show p∈([]:List (Addr×Obj))++[] from hp) (by simp)⟩
 have cF:ce.frame=X.env.frame:=by subst hce;rfl
 have pass:∀ pn:List (Addr×Obj),(∀ b∈fp,∃ o,(b,o)∈pn)->B3 (cxX X.prog X.w) ((X.blk s3 H3 scope ce fp).tryb (notedBy (model X.prog X.w) X.A ce fun e s'=>compPost (model X.prog X.w) X.A X.xe use Qf (.ref D) s3.heap.objs.size (.error e) s') pn) E:=by
  rintro pn hpn pins' σ' H' s' e s'' I' ⟨x,cls,od,H'',rfl,os,bare,un,hok,fl,hE⟩
  have K':Inv (X.blk s3 H3 scope ce fp) pn σ' H' s':=Inv.untryb I4.ok I'
  have J:Inv (X.blk s3 H3 scope ce fp) pn σ' H'' s'':=K'.call' os un hok bare (ch:=[]) fun b z=>absurd z (by simp)
  have I7:Inv X pins σ H'' s'':=I3.call' (ch:=fp) J.os J.base J.hok J.bare fun b hb=>⟨(f3 b hb).1.2.2.2.1,(f3 b hb).1.2.1,(f3 b hb).1.2.2.2.2.1,(f3 b hb).1.2.2.2.2.2⟩
  have ks3:∀ b o,s3.heap.get? b=some o->∃ o',s'.heap.get? b=some o':=fun b o q=>by
   by_cases hb:b∈fp
   ·obtain ⟨o',ho'⟩:=hpn b hb
    exact ⟨o',(K'.pin (b,o') (List.mem_append_right _ ho')).1⟩
   ·exact K'.base.there b o q hb
  have fl3:Fly s3.heap H'' s''.heap x cls od:=fl.mono (F1 ks3)
  have ks:∀ b o,s3.heap.get? b=some o->∃ o',s''.heap.get? b=some o':=fun b o q=>let ⟨o',q'⟩:=ks3 b o q;un.there b o' q' (by simp)
  obtain ⟨oe,vs,he',hcl,hdd,hd,tb⟩:=id fl.obj
  have hF:s''.heap.FunFrames X.base (X.env::X.outer):=by rw [<-hst];exact I7.stack
  have hfs:∀ b,b∈(X.env::X.outer).filterMap (·.frame)->b∈frs X.stack:=fun b hb=>by rw [hst];exact hb
  have nC:H'' s3.heap.objs.size=none:=by
   have z:H'' ce.locals=none:=J.free
   rw [cL] at z
   exact z
  obtain ⟨mC,hnC',_⟩:=J.loc
  have hnC:s''.heap.Ns s3.heap.objs.size mC:=by rw [<-cL];exact hnC'
  obtain ⟨mK,hnK',_⟩:=K'.loc
  have hnK:s'.heap.Ns s3.heap.objs.size mK:=by rw [<-cL];exact hnK'
  obtain ⟨oC,esC,epC,hoC,rC⟩:=hnC
  obtain ⟨oK,_,_,hoK,_⟩:=hnK
  have Cx':s3.heap.objs.size≠x:=fun z=>by rw [z,fl.new] at hoK;cases hoK
  have CF:s3.heap.objs.size∉(X.env::X.outer).filterMap (·.frame):=fun hb=>by
   rcases List.mem_cons.mp (I3.stkSub _ (hfs _ hb)) with z | z
   ·exact Nat.lt_irrefl _ (z▸I3.lt)
   ·exact I3.nofs (Nat.le_refl _) z
  show wpAny _ _ (noteFrame (.ref x) ce) _ _ s''
  rw [au4 cF]
  refine bQ5 (I7.ok.frames.trans (congrArg some hst)) hF hfr he' hd (tb.imp id fun ⟨T,oT,ts,q1,q2,q3,q4,q5,_⟩=>⟨T,oT,ts,q1,q2,q3,q4,q5⟩) fun h1 old ho N=>?_
  have oldC:old≠.ref s3.heap.objs.size:=fun z=>by
   rcases tb with q | ⟨T,oT,ts,q1,q2,q3,q4,q5,q6,q7⟩
   ·rw [ho,z] at q;cases q
   ·rw [ho,z] at q1;cases q1;rw [q7] at hoK;cases hoK
  obtain ⟨I8,f8⟩:=ac4 hfs hex I3 I7 fl3 he' hd ho N ks
  have hC1:h1.get? s3.heap.objs.size=some oC:=N.keep _ _ Cx' oldC CF hoC
  obtain ⟨oe1,vs1,T1,oT1,ts1,q1,q2,q3,q4,q5,q6,q7,q8,q9,q10⟩:=N.obj
  have T1C:T1≠s3.heap.objs.size:=fun z=>by
   rcases q10 with q | q
   ·rw [z,hoC] at q;cases q
   ·exact oldC (by rw [q,z])
  refine ⟨mC,⟨oC,esC,epC,hC1,rC⟩,fun h2 sb cenv' hcl'=>?_⟩
  obtain ⟨z0,z1,z2,z3,z4,z5⟩:=I3.fpOk (Nat.le_refl _) nC
  have I9:Inv X pins σ H'' { s'' with heap:=h2 }:=I8.turned (t':=s''.toks) (fun b o hb e=>(sb.2 b hb).trans e) z0 z1 z3 z4 z5
  have x2:h2.get? x=some oe1:=(sb.2 x (fun z=>Cx' z.symm)).trans q1
  have t2:h2.get? T1=some oT1:=(sb.2 T1 T1C).trans q7
  have ks2:∀ b o,s3.heap.get? b=some o->∃ o',h2.get? b=some o':=fun b o q=>by
   have hb:b≠s3.heap.objs.size:=Nat.ne_of_lt (Heap.lt_size q)
   obtain ⟨o1,e1⟩:=ks b o q
   obtain ⟨o2,e2⟩:=N.there b o1 e1
   exact ⟨o2,(sb.2 b hb).trans e2⟩
  have f9:Fly s3.heap H'' h2 x cls od:=by
   obtain ⟨g1,g2,oe',vs',e1,e2,e3,e4,e5⟩:=f8
   have:oe'=oe1:=Option.some.inj (e1.symm.trans q1)
   subst this
   have hv:vs'=vs1:=by
    have:=e4.symm.trans q4
    injection this
   subst hv
   rcases e5 with e5 | ⟨T',oT',ts',u1,u2,u3,u4,u5,u6,u7⟩
   ·rw [q5] at e5;cases e5
   ·have hT':T1=T':=by
     have:=q5.symm.trans u1
     injection this with this
     injection this
    subst hT'
    exact ⟨g1,g2,oe',vs',x2,e2,e3,e4,.inr ⟨T1,oT1,ts1,q5,q6,t2,q8,q9,u6,u7⟩⟩
  unfold PySem.passOn
  refine wpAny_bind (wpAny_field x2 q4 q5 ?_)
  rw [if_neg (show ¬ ((Value.ref T1 == Value.none)=true) by simp)]
  refine wpAny_bind (bx4 (fs:=(X.env::X.outer).filterMap (·.frame)) x2 q4 q5 q6 t2 q8 q9 fun h3 N3=>?_)
  obtain ⟨I10,f10⟩:=ac4 hfs hex I3 I9 f9 x2 q4 q5 N3 ks2
  refine wpAny_throw ?_
  exact hT pins σ H3 s3 σ H'' _ x cls od I3 I10 (fun b o q=>let ⟨o',e'⟩:=ks2 b o q;N3.there b o' e') f10 hE
 have loop:codeAny (model X.prog X.w) X.A (.compLoop (.ListComp elt [⟨tg,iter,ifs,0⟩] scope pos) 0 (.ref it) (.ref D) ce) (compPost (model X.prog X.w) X.A X.xe use Qf (.ref D) s3.heap.objs.size) s4:=by
  refine ah7 (fun n s'=>∃ i H',Inv (X.blk s3 H3 scope ce fp) [] (J8 σ (own.map (·.2))) H' s'/\tn i s'.heap/\(∀ b∈fp,H' b=none)/\W i n H') ?_ m0 ⟨0,H3,I4,st4,nfp,w0⟩
  rintro n s5 ⟨i,H5,I5,st5,n5,w5⟩
  rcases turn i n H5 w5 with ⟨stop,qq⟩ | ⟨go,Nx,hNx,step⟩
  ·have td:=T.done (X.blk s3 H3 scope ce fp) rfl rfl rfl hc i [] s5 _ H5 (fun _ _=>False) I5 (stat I5 n5) st5 stop
   refine ap2 td fun r s6 ⟨hr,I6⟩=>?_
   subst hr
   have I7:Inv X pins σ H5 s6:=I3.call' (ch:=fp) I6.os I6.base I6.hok I6.bare fun b hb=>⟨(f3 b hb).1.2.2.2.1,(f3 b hb).1.2.1,(f3 b hb).1.2.2.2.2.1,(f3 b hb).1.2.2.2.2.2⟩
   have nC:H5 s3.heap.objs.size=none:=by
    have z:H5 ce.locals=none:=I6.free
    rw [cL] at z
    exact z
   obtain ⟨m,hn,_⟩:=I6.loc
   have hn:s6.heap.Ns ce.locals m:=hn
   rw [cL] at hn
   exact hRR D s3.heap.objs.size s6 m H5 I7 qq hn (I3.fpOk (Nat.le_refl _) nC)
  ·have ti:=T.item (X.blk s3 H3 scope ce fp) rfl rfl rfl hc i [] s5 _ H5 (fun _ _=>False) I5 (stat I5 n5) st5 go
   refine ap2 ti fun r s6 ⟨u,hr,h6⟩=>?_
   subst hr
   refine ap2 h6 fun _ s7 ⟨x,H7,I7,r7,y7,st7,n7⟩=>?_
   have I7':=I7.pinned (stat I7 n7) (T.obj _ _ st7)
   refine ap2 (pg _ s7 _ H7 x u _ I7' r7 (step x H7 y7)) fun _ s8 ⟨σ8,H8,I8,hw8,q8⟩=>?_
   refine ap2 (pt _ s8 σ8 H8 _ I8 q8) fun b s9 ⟨H9,I9,q9⟩=>?_
   have fin:∀ {s':Shared}{H':Hp},Inv (X.blk s3 H3 scope ce fp) ([]++T4 fp s7.heap) σ8 H' s'->Nx H'->∃ m,m < n/\∃ i H',Inv (X.blk s3 H3 scope ce fp) [] (J8 σ (own.map (·.2))) H' s'/\tn i s'.heap/\(∀ b∈fp,H' b=none)/\W i m H':=fun {s' H'} I' nx=>by
    obtain ⟨m',hm,w'⟩:=hNx H' nx
    have pin':∀ b∈fp,∀ o,s7.heap.get? b=some o->s'.heap.get? b=some o/\H' b=none:=fun b hb o e =>
     let z:=I'.pin (b,o) (List.mem_append_right _ (List.mem_append_right _ (P2 hb e)))
     ⟨z.1,z.2.1⟩
    have hl:(J8 σ (own.map (·.2))).length=σ8.length:=by rw [<-hw8,Q3]
    refine ⟨m',hm,i+1,H',(I'.unpinned (pins:=[])).weak hl (fun j v e=>?_),T.keep _ _ _ st7 fun b hb o e=>(pin' b hb o e).1,fun b hb=>?_,w'⟩
    ·rw [<-hw8] at e
     exact (ab8 e).1
    ·obtain ⟨o,e,_⟩:=T.obj _ _ st7 b hb
     exact (pin' b hb o e).2
   cases b with
   | false =>
    simp only [Bool.false_eq_true,if_false] at q9 ⊢
    exact fin I9 q9
   | true =>
    simp only [if_true] at q9 ⊢
    have pe:=pe _ (T4 fp s7.heap) (pass (T4 fp s7.heap) fun b hb=>let ⟨o,e,_⟩:=T.obj _ _ st7 b hb;⟨o,P2 hb e⟩)
    have I9':Inv (X.blk s3 H3 scope ce fp) (T4 fp s7.heap) σ8 H9 s9:=I9
    refine thn (pe _ s9 σ8 H9 _ I9'.tryb q9) fun z s10 ⟨yv,H10,I10',r10,acc,hD10,hz10,nx⟩=>?_
    have I10:Inv (X.blk s3 H3 scope ce fp) ([]++T4 fp s7.heap) σ8 H10 s10:=Inv.untryb I4.ok I10'
    exact bo4 (X:=X.blk s3 H3 scope ce fp) I10 hD10 hz10 r10 fun s11 I11=>fin I11 nx
 exact codeAny_compStart_list loop (T.self X.A 0 _ _ _ st4 loop)
theorem aw5 {E:XK}{i:Nat}{y:Str}{py:Pos}{elt tg iter:Expr}{ifs:List Expr}{scope:Scope}{own:List (Str×Nat)}{pos spos:Pos}{wi:TI}{g:TG}{tt:TT}{te:TE}(hT:Thr X E)(hst:X.stack=X.env::X.outer)(hfr:X.env.frame=some X.env.locals)(hex:X.ex=[])(hc:X.calm=true)(hN:X.N.Nodup)(hy:X.N[i]?=some y)(hyl:X.env.scope.names.lookup y=some .local)
  (hsw:swapsWith (.ListComp elt [⟨tg,iter,ifs,0⟩] scope pos) (some (.Name y py)) spos.line X.env=pure true) (hi:PI X tg iter wi) (ok:au0 X.N X.env.scope scope own)
  (hg:∀ (s:Shared) (H:Hp) (C:Addr) (cl:List (Str×Addr)) (fp:List Addr),PG (X.blk s H scope (compEnvC scope cl C X.env) fp) tg g) (ht:∀ (s:Shared) (H:Hp) (C:Addr) (cl:List (Str×Addr)) (fp:List Addr),PTs (X.blk s H scope (compEnvC scope cl C X.env) fp) ifs tt)
  (he:∀ (s:Shared) (H:Hp) (C:Addr) (cl:List (Str×Addr)) (fp:List Addr) (xe:Value->Shared->Prop) (pn:List (Addr×Obj)),B3 (cxX X.prog X.w) ((X.blk s H scope (compEnvC scope cl C X.env) fp).tryb xe pn) E->PE ((X.blk s H scope (compEnvC scope cl C X.env) fp).tryb xe pn) elt te) (hs:∀ x,foldedSetIterable iter X.env x=pure x:=by intro _;rfl) :
  PS X (.Assign [.Name y py] (.ListComp elt [⟨tg,iter,ifs,0⟩] scope pos) spos) (bC9 (tLc wi g tt te (own.map (·.2))) (ax9 i)):=by
 intro pins s σ H D I h
 rw [exec_Assign_Name_used _ _ _ _ hsw]
 refine wpAny_bind (wpAny_standAt (wpAny_bind ?_))
 show wpAny _ X.A (do let _ ← comprehension (.ListComp elt [⟨tg,iter,ifs,0⟩] scope pos) scope X.env (firstIterPos [⟨tg,iter,ifs,0⟩] pos) (newList []) false (eval iter X.env) (some (assign (.Name y py) X.env))) _ _ s
 have h:tLc wi g tt te (own.map (·.2)) σ H (fun x H1=>ax9 i x σ H1 D.nx):=h
 refine wpAny_bind (thn (bl3 (Qf:=fun _ s'=>SP X pins D .next s') hT hst hfr hex hc hN I hi ok hg ht he hs h fun L C s' m H' I' q hn f=>?_) fun _ s' hq=>wpAny_pure (wpAny_pure hq))
 show wpAny _ _ (assign (.Name y py) X.env (.ref L)) _ _ _
 refine wpAny_assign_Name (ac0 (v:=V.ref L) I' hN hy (.inl hyl) rfl (fun s2 I2 ⟨a,sb,ha⟩=>?_) (.inr hyl))
 obtain ⟨f0,f1,f2,f3,f4,f5⟩:=f
 have haC:C≠a:=by
  rcases ha with z | z
  ·rw [z];exact f1
  ·exact fun e=>f4 y a z e.symm
 refine ⟨m,hn.sameBut sb haC,fun h3 sb3=>?_⟩
 exact ⟨_,H',I2.turned (t':=s2.toks) (fun b o hb e=>(sb3.2 b hb).trans e) f0 f1 f3 f4 f5,q⟩
end
end L2
set_option maxHeartbeats 4000000
namespace L2
open PySem PySem.Spec PyProof.Rows
abbrev T8 (h:Heap)(z TI TO a:Addr)(f:Bool):Prop :=
 h.get? z=some { cls:=.type "zip",dict:=none,data:=.fields #[rawInt a,.bool f,.bool false,.ref TI,.ref TO],slots:=#[] }
section
variable {prog:Program}{w:World}{A:Around}{E:Value->Shared->Prop}{s:Shared}
theorem aP4 {z TI TO a:Addr}{f:Bool}{oa:Obj}{Q:Bool->Shared->Prop}(hz:T8 s.heap z TI TO a f)(ha:s.heap.get? a=some oa)(hQ:∀ h',T8 h' z TI TO a true->Heap.SameBut z s.heap h'->Q false { s with heap:=h' }):wpAny (model prog w) A (Builtin.SmallTypes.ownedTupleIsFree (.ref z)) Q E s:=by
 unfold Builtin.SmallTypes.ownedTupleIsFree
 refine wpAny_bind (wpAny_field hz rfl (x:=rawInt a) rfl ?_)
 show wpAny _ _ (loadIfAlive ((a:Int).toNat) >>= _) _ _ _
 rw [Int.toNat_natCast]
 refine wpAny_bind (W.kdx_alive ha ?_)
 simp only [Option.isNone_some,Bool.false_eq_true,if_false]
 refine wpAny_bind (wpAny_field hz rfl (x:=.bool f) rfl ?_)
 cases f with
 | true =>
  rw [if_neg (show ¬ ((Value.bool true != Value.bool true)=true) from Bool.false_ne_true)]
  exact wpAny_pure (hQ _ hz (Heap.SameBut.refl _ _))
 | false =>
  rw [if_pos (show (Value.bool false != Value.bool true)=true from rfl)]
  refine wpAny_bind (wpAny_setField_rec hz (by simp) fun h₃ he₃ hs₃=>?_)
  exact wpAny_pure (hQ _ he₃ hs₃)
theorem aV2 {z TI TO i1 i2 l1 l2 a:Addr}{f:Bool}{oa:Obj}{k1 k2:Nat}{xs ys:Array Value}{x y:Value}{Q:Value->Shared->Prop}(D:ZipApart z TI TO i1 i2 l1 l2)(az:a≠z)
  (hz:T8 s.heap z TI TO a f) (ha:s.heap.get? a=some oa) (hTI:IsPair s.heap TI (.ref i1) (.ref i2))
  (h1:s.heap.IsListIter i1 l1 k1) (h2:s.heap.IsListIter i2 l2 k2) (hl1:s.heap.IsList l1 xs) (hl2:s.heap.IsList l2 ys) (hx:xs[k1]?=some x) (hy:ys[k2]?=some y)
  (hQ:∀ h',T8 h' z TI TO a true->h'.IsListIter i1 l1 (k1+1)->h'.IsListIter i2 l2 (k2+1)->IsPair h' s.heap.objs.size x y->h'.objs.size=s.heap.objs.size+1 ->
   (∀ c o,c≠z->c≠TO->c≠i1->c≠i2->s.heap.get? c=some o->h'.get? c=some o)->Q (.ref s.heap.objs.size) { s with heap:=h' }) :
  wpAny (model prog w) A (Builtin.«zip.__next__» ⟨[.ref z],[]⟩) (fun fin s'=>∃ v,fin=.done (.ret v)/\Q v s') E s:=by
 show wpAny _ _ (field (.ref z) 2 >>= _) _ _ _
 refine wpAny_bind (wpAny_field hz rfl (x:=.bool false) rfl ?_)
 show wpAny _ _ (field (.ref z) 3 >>= _) _ _ _
 refine wpAny_bind (wpAny_field hz rfl (x:=.ref TI) rfl ?_)
 refine wpAny_bind (wpAny_seqItems hTI rfl ?_)
 show wpAny _ _ (Builtin.SmallTypes.ownedTupleIsFree (.ref z) >>= _) _ _ _
 refine wpAny_bind (aP4 hz ha fun h₁ hz₁ hs₁=>?_)
 simp only [Bool.false_eq_true,if_false]
 simp only [List.forIn_toArray,List.forIn_cons,List.forIn_nil]
 refine wpAny_bind (wpAny_bind (wpAny_bind (wpAny_holding ?_)))
 show wpAny _ _ (Builtin.SmallTypes.nextOf (.ref i1) >>= _) _ _ _
 refine wpAny_bind (wpAny_nextOf_list_item (h1.extBut hs₁.extBut D.i1z) (hl1.extBut hs₁.extBut D.l1z) hx fun h₂ h1₂ hs₂=>wpAny_pure (wpAny_pure ?_))
 refine wpAny_bind (wpAny_bind (wpAny_holding ?_))
 show wpAny _ _ (Builtin.SmallTypes.nextOf (.ref i2) >>= _) _ _ _
 refine wpAny_bind (wpAny_nextOf_list_item ((h2.extBut hs₁.extBut D.i2z).extBut hs₂.extBut D.i12.symm) ((hl2.extBut hs₁.extBut D.l2z).extBut hs₂.extBut D.l2i1) hy fun h₃ h2₃ hs₃=>wpAny_pure (wpAny_pure (wpAny_pure ?_)))
 refine wpAny_bind (wpAny_newTuple (hsz:=by show 2<=sizeLine;decide) ?_)
 have hsz:h₃.objs.size=s.heap.objs.size:=by rw [hs₃.1,hs₂.1,hs₁.1]
 have hz₃:T8 h₃ z TI TO a true:=hs₃.extBut _ _ D.i2z.symm (hs₂.extBut _ _ D.i1z.symm hz₁)
 have k₃:∀ c o,c≠z->c≠i1->c≠i2->s.heap.get? c=some o->h₃.get? c=some o:=fun c o c1 c3 c4 e=>hs₃.extBut _ _ c4 (hs₂.extBut _ _ c3 (hs₁.extBut _ _ c1 e))
 have h1₃:h₃.IsListIter i1 l1 (k1+1):=h1₂.extBut hs₃.extBut D.i12
 refine wpAny_pure ⟨_,rfl,?_⟩
 show Q (.ref h₃.objs.size) _
 have hT:(h₃.push { cls:=.type "tuple",data:=.seq #[x,y] }).get? h₃.objs.size=some { cls:=.type "tuple",data:=.seq #[x,y] }:=Heap.get?_push_size _ rfl
 have hs:(h₃.push { cls:=.type "tuple",data:=.seq #[x,y] }).objs.size=h₃.objs.size+1:=Heap.size_push ..
 rw [hsz] at hT hs ⊢
 exact hQ _ (Heap.get?_push_of_some _ hz₃) (h1₃.at fun o e=>Heap.get?_push_of_some _ e) (h2₃.at fun o e=>Heap.get?_push_of_some _ e) hT hs fun c o c1 _ c3 c4 e=>Heap.get?_push_of_some _ (k₃ c o c1 c3 c4 e)
theorem bb9 {z TI TO i1 i2 l1 l2 a:Addr}{f:Bool}{oa:Obj}{k1 k2:Nat}{xs ys:Array Value}{Q:Fin->Shared->Prop}(hh:A.handled=none)(D:ZipApart z TI TO i1 i2 l1 l2)
  (hz:T8 s.heap z TI TO a f) (ha:s.heap.get? a=some oa) (hTI:IsPair s.heap TI (.ref i1) (.ref i2))
  (h1:s.heap.IsListIter i1 l1 k1) (h2:s.heap.IsListIter i2 l2 k2) (hl1:s.heap.IsList l1 xs) (hl2:s.heap.IsList l2 ys) (hend:xs[k1]?=none\/ys[k2]?=none)
  (hE:∀ h' e,(∀ c o,c≠z->c≠TO->c≠i1->c≠i2->s.heap.get? c=some o->h'.get? c=some o)->(∃ o,h'.get? e=some o/\o.cls=.type "StopIteration")->E (.ref e) { s with heap:=h' }) :
  wpAny (model prog w) A (Builtin.«zip.__next__» ⟨[.ref z],[]⟩) Q E s:=by
 show wpAny _ _ (field (.ref z) 2 >>= _) _ _ _
 refine wpAny_bind (wpAny_field hz rfl (x:=.bool false) rfl ?_)
 show wpAny _ _ (field (.ref z) 3 >>= _) _ _ _
 refine wpAny_bind (wpAny_field hz rfl (x:=.ref TI) rfl ?_)
 refine wpAny_bind (wpAny_seqItems hTI rfl ?_)
 show wpAny _ _ (Builtin.SmallTypes.ownedTupleIsFree (.ref z) >>= _) _ _ _
 refine wpAny_bind (aP4 hz ha fun h₁ hz₁ hs₁=>?_)
 simp only [Bool.false_eq_true,if_false]
 simp only [List.forIn_toArray,List.forIn_cons,List.forIn_nil]
 refine wpAny_bind (wpAny_bind (wpAny_bind (wpAny_holding ?_)))
 show wpAny _ _ (Builtin.SmallTypes.nextOf (.ref i1) >>= _) _ _ _
 cases hx:xs[k1]? with
 | none =>
  refine wpAny_bind (wpAny_nextOf_list_end hh (h1.extBut hs₁.extBut D.i1z) (hl1.extBut hs₁.extBut D.l1z) hx fun h₂ e hs₂ he=>?_)
  exact hE h₂ e (fun c o c1 _ c3 _ x=>hs₂ _ _ c3 (hs₁.extBut _ _ c1 x)) he
 | some x =>
  have hy:ys[k2]?=none:=by rcases hend with h | h;rw [hx] at h;cases h;exact h
  refine wpAny_bind (wpAny_nextOf_list_item (h1.extBut hs₁.extBut D.i1z) (hl1.extBut hs₁.extBut D.l1z) hx fun h₂ h1₂ hs₂=>wpAny_pure (wpAny_pure ?_))
  refine wpAny_bind (wpAny_bind (wpAny_holding ?_))
  show wpAny _ _ (Builtin.SmallTypes.nextOf (.ref i2) >>= _) _ _ _
  refine wpAny_bind (wpAny_nextOf_list_end hh ((h2.extBut hs₁.extBut D.i2z).extBut hs₂.extBut D.i12.symm) ((hl2.extBut hs₁.extBut D.l2z).extBut hs₂.extBut D.l2i1) hy fun h₃ e hs₃ he=>?_)
  exact hE h₃ e (fun c o c1 _ c3 c4 x=>hs₃ _ _ c4 (hs₂.extBut _ _ c3 (hs₁.extBut _ _ c1 x))) he
theorem ar6 {z TI TO i1 i2 l1 l2 a:Addr}{f:Bool}{oa:Obj}{k1 k2:Nat}{xs ys:Array Value}{x y:Value}{Q:Option Value->Shared->Prop}(D:ZipApart z TI TO i1 i2 l1 l2)(az:a≠z)
  (hz:T8 s.heap z TI TO a f) (ha:s.heap.get? a=some oa) (hTI:IsPair s.heap TI (.ref i1) (.ref i2))
  (h1:s.heap.IsListIter i1 l1 k1) (h2:s.heap.IsListIter i2 l2 k2) (hl1:s.heap.IsList l1 xs) (hl2:s.heap.IsList l2 ys) (hx:xs[k1]?=some x) (hy:ys[k2]?=some y)
  (hQ:∀ h',T8 h' z TI TO a true->h'.IsListIter i1 l1 (k1+1)->h'.IsListIter i2 l2 (k2+1)->IsPair h' s.heap.objs.size x y->h'.objs.size=s.heap.objs.size+1 ->
   (∀ c o,c≠z->c≠TO->c≠i1->c≠i2->s.heap.get? c=some o->h'.get? c=some o)->Q (some (.ref s.heap.objs.size)) { s with heap:=h' }) :
  wpAny (model prog w) A (pyNext (.ref z)) Q E s:=by
 have hT:s.TypeIs (.ref z) "zip":=⟨_,hz,rfl⟩
 unfold pyNext
 exact wpAny_bind (wpAny_attempt (wpAny_callSpecial?_slot (name:=Str.ofString "__next__") hT PySem.F.slot_zip_next
  (wpAny_call_entry PySem.F.slot_zip_next hT PySem.F.entry_zip_next
   (aV2 D az hz ha hTI h1 h2 hl1 hl2 hx hy fun h' a1 a2 a3 a4 a5 a6=>wpAny_pure (hQ h' a1 a2 a3 a4 a5 a6)) (PySem.F.args_zip_next_1 _))))
theorem au5 {z TI TO i1 i2 l1 l2 a:Addr}{f:Bool}{oa:Obj}{k1 k2:Nat}{xs ys:Array Value}{Q:Option Value->Shared->Prop}(hh:A.handled=none)(D:ZipApart z TI TO i1 i2 l1 l2)
  (hz:T8 s.heap z TI TO a f) (ha:s.heap.get? a=some oa) (hTI:IsPair s.heap TI (.ref i1) (.ref i2))
  (h1:s.heap.IsListIter i1 l1 k1) (h2:s.heap.IsListIter i2 l2 k2) (hl1:s.heap.IsList l1 xs) (hl2:s.heap.IsList l2 ys) (hend:xs[k1]?=none\/ys[k2]?=none)
  (hQ:∀ h',(∀ c o,c≠z->c≠TO->c≠i1->c≠i2->s.heap.get? c=some o->h'.get? c=some o)->Q none { s with heap:=h' }):wpAny (model prog w) A (pyNext (.ref z)) Q E s:=by
 have hT:s.TypeIs (.ref z) "zip":=⟨_,hz,rfl⟩
 unfold pyNext
 refine wpAny_bind (wpAny_attempt (wpAny_callSpecial?_slot (name:=Str.ofString "__next__") hT PySem.F.slot_zip_next
  (wpAny_call_entry PySem.F.slot_zip_next hT PySem.F.entry_zip_next (bb9 hh D hz ha hTI h1 h2 hl1 hl2 hend fun h' e hk he=>?_) (PySem.F.args_zip_next_1 _))))
 obtain ⟨o,ho,hc⟩:=he
 refine wpAny_bind (wpAny_isInstance (T:="StopIteration") (b:=true) ⟨o,ho,hc⟩ isSubtype_stop ?_)
 exact wpAny_pure (hQ _ hk)
def ZSt (h:Heap)(z TI TO i1 i2 S l1 l2:Addr)(i:Nat):Prop :=
 IsPair h TI (.ref i1) (.ref i2)/\h.IsListIter i1 l1 i/\h.IsListIter i2 l2 i/\((IsZip h z TI TO .none/\∃ x y,IsPair h TO x y)\/∃ a f oa,T8 h z TI TO a f/\h.get? a=some oa/\a≠z/\a≠TO/\a≠i1/\a≠i2/\a≠S)
theorem ZSt.keep {h h':Heap}{z TI TO i1 i2 S l1 l2:Addr}{i:Nat}(st:ZSt h z TI TO i1 i2 S l1 l2 i)(hk:∀ b o,b≠S->h.get? b=some o->h'.get? b=some o)(hS:S∉[z,TI,TO,i1,i2]):ZSt h' z TI TO i1 i2 S l1 l2 i:=by
 simp only [List.mem_cons,List.not_mem_nil,or_false,not_or] at hS
 obtain ⟨s1,s2,s3,s4,s5⟩:=hS
 obtain ⟨a1,a2,a3,a4⟩:=st
 refine ⟨hk _ _ (Ne.symm s2) a1,a2.at fun o e=>hk _ _ (Ne.symm s4) e,a3.at fun o e=>hk _ _ (Ne.symm s5) e,?_⟩
 rcases a4 with ⟨b1,x,y,b2⟩ | ⟨a,f,oa,b1,b2,b3,b4,b5,b6,b7⟩
 ·exact .inl ⟨hk _ _ (Ne.symm s1) b1,x,y,hk _ _ (Ne.symm s3) b2⟩
 ·exact .inr ⟨a,f,oa,hk _ _ (Ne.symm s1) b1,hk _ _ b7 b2,b3,b4,b5,b6,b7⟩
theorem bb5 {z TI TO i1 i2 S l1 l2:Addr}{i:Nat}{xs ys:Array Value}{x y:Value}{Q:Option Value->Shared->Prop}(D:ZipApart z TI TO i1 i2 l1 l2)(hSl:S < s.heap.objs.size)
  (st:ZSt s.heap z TI TO i1 i2 S l1 l2 i) (hl1:s.heap.IsList l1 xs) (hl2:s.heap.IsList l2 ys) (hx:xs[i]?=some x) (hy:ys[i]?=some y)
  (hQ:∀ h',ZSt h' z TI TO i1 i2 S l1 l2 (i+1)->IsPair h' s.heap.objs.size x y ->
   (∀ c o,c≠z->c≠TO->c≠i1->c≠i2->s.heap.get? c=some o->h'.get? c=some o)->Q (some (.ref s.heap.objs.size)) { s with heap:=h' }) :
  wpAny (model prog w) A (pyNext (.ref z)) Q E s:=by
 obtain ⟨hTI,h1,h2,hz⟩:=st
 have l1':i1 < s.heap.objs.size:=by obtain ⟨_,e,_⟩:=h1;exact Heap.lt_size e
 have l2':i2 < s.heap.objs.size:=by obtain ⟨_,e,_⟩:=h2;exact Heap.lt_size e
 rcases hz with ⟨hz,_,_,hTO⟩ | ⟨a,f,oa,hz,ha,b3,b4,b5,b6,b7⟩
 ·refine wpAny_pyNext_zip_item D hz hTI hTO h1 h2 hl1 hl2 hx hy fun h' z' TO' h1' h2' hT hsz hk=>?_
  exact hQ h' ⟨hk _ _ D.TIz D.TITO D.TIi1 D.TIi2 hTI,h1',h2',.inr ⟨_,_,_,z',hT,Nat.ne_of_gt (Heap.lt_size hz),Nat.ne_of_gt (Heap.lt_size hTO),Nat.ne_of_gt l1',Nat.ne_of_gt l2',Nat.ne_of_gt hSl⟩⟩ hT hk
 ·refine ar6 D b3 hz ha hTI h1 h2 hl1 hl2 hx hy fun h' z' h1' h2' hT hsz hk=>?_
  exact hQ h' ⟨hk _ _ D.TIz D.TITO D.TIi1 D.TIi2 hTI,h1',h2',.inr ⟨a,_,_,z',hk _ _ b3 b4 b5 b6 ha,b3,b4,b5,b6,b7⟩⟩ hT hk
theorem bb6 {z TI TO i1 i2 S l1 l2:Addr}{i:Nat}{xs ys:Array Value}{Q:Option Value->Shared->Prop}(hh:A.handled=none)(D:ZipApart z TI TO i1 i2 l1 l2)
  (st:ZSt s.heap z TI TO i1 i2 S l1 l2 i) (hl1:s.heap.IsList l1 xs) (hl2:s.heap.IsList l2 ys) (he:xs[i]?=none\/ys[i]?=none)
  (hQ:∀ h',(∀ c o,c≠z->c≠TO->c≠i1->c≠i2->s.heap.get? c=some o->h'.get? c=some o)->Q none { s with heap:=h' }) :
  wpAny (model prog w) A (pyNext (.ref z)) Q E s:=by
 obtain ⟨hTI,h1,h2,hz⟩:=st
 rcases hz with ⟨hz,_,_,hTO⟩ | ⟨a,f,oa,hz,ha,b3,b4,b5,b6,b7⟩
 ·exact wpAny_pyNext_zip_end hh D hz hTI hTO h1 h2 hl1 hl2 he hQ
 ·exact au5 hh D hz ha hTI h1 h2 hl1 hl2 he hQ
end
def am6 (l:Addr)(Q:VK):List V->List V->List V->Hp->Prop
 | x::xs,y::ys,acc,H=>∀ T,H T=none->am6 l Q xs ys (acc++[.ref T]) (upd (upd H T (.tup [x,y])) l (.lst (acc++[.ref T])))
 | _,_,_,H=>Q (.ref l) H
theorem SqL.other {K:W.Frag}{H:Hp}{a p:Addr}{o:HO}{xs:List V}(h:SqL K H a xs)(n:a≠p):SqL K (upd H p o) a xs:=by
 rcases h with (h | ⟨o',h⟩) | h
 ·exact .inl (.inl (by rw [d6 n];exact h))
 ·exact .inl (.inr ⟨o',by rw [d6 n];exact h⟩)
 ·exact .inr h
theorem bb7 {X:Cx}{pins:List (Addr×Obj)}{σ:St}{A:Around}{Q:VK}{z TI TO i1 i2 S l1 l2:Addr}{xs ys:List V}(hh:A.handled=none)(D:ZipApart z TI TO i1 i2 l1 l2)(hS:S∉[z,TI,TO,i1,i2])(n1:l1≠S)(n2:l2≠S) :
  ∀ (rx ry:List V) (i:Nat) (s:Shared) (H:Hp) (acc:List V),xs.drop i=rx->ys.drop i=ry->acc.length=i->Inv X pins σ H s->H S=some (.lst acc)->ZSt s.heap z TI TO i1 i2 S l1 l2 i->(∀ b∈[z,TI,TO,i1,i2],Y9 X pins H b/\b < s.heap.objs.size)->SqL X.K H l1 xs->SqL X.K H l2 ys->am6 S Q rx ry acc H ->
   codeAny (model X.prog X.w) A (.builtin "list.extend.loop" ⟨[.ref S,.ref z,.none],[]⟩) (wants (fun r s'=>r=.none/\EP X pins σ Q (.ref S) s') X.xe) s:=by
 have stop:∀ (rx ry:List V) (i:Nat) (s:Shared) (H:Hp) (acc:List V),(xs[i]?=none\/ys[i]?=none)->Inv X pins σ H s->H S=some (.lst acc)->ZSt s.heap z TI TO i1 i2 S l1 l2 i->(∀ b∈[z,TI,TO,i1,i2],Y9 X pins H b/\b < s.heap.objs.size)->SqL X.K H l1 xs->SqL X.K H l2 ys->Q (.ref S) H ->
   codeAny (model X.prog X.w) A (.builtin "list.extend.loop" ⟨[.ref S,.ref z,.none],[]⟩) (wants (fun r s'=>r=.none/\EP X pins σ Q (.ref S) s') X.xe) s:=by
  intro rx ry i s H acc he I hSH st hf q1 q2 q
  obtain ⟨its,rv,p,_⟩:=I.list q1
  obtain ⟨its2,rv2,p2,_⟩:=I.list q2
  have l1:=rv.length
  have l2:=rv2.length
  refine codeAny_builtin PySem.F.entry_extend_loop ?_
  rw [Around.under_plainId PySem.F.plain_extend_loop _]
  show wpAny _ A.in1 (pyNext (.ref z) >>= _) _ _ _
  have he':its.toArray[i]?=none\/its2.toArray[i]?=none:=by
   rcases he with e | e
   ·exact .inl (by rw [List.getElem?_eq_none_iff] at e;simp;omega)
   ·exact .inr (by rw [List.getElem?_eq_none_iff] at e;simp;omega)
  refine wpAny_bind (bb6 (A:=A.in1) hh D st p.isList p2.isList he' fun h' hk=>?_)
  refine wpAny_pure ⟨rfl,.ref S,H,I.turnedL (t':=s.toks) (ch:=[z,TI,TO,i1,i2]) (fun c o hb q=>hk c o (fun q'=>hb (by simp [q'])) (fun q'=>hb (by simp [q'])) (fun q'=>hb (by simp [q'])) (fun q'=>hb (by simp [q'])) q) (fun b hb=>(hf b hb).1),rfl,q⟩
 intro rx
 induction rx with
 | nil =>
  intro ry i s H acc hx hy hl I hSH st hf q1 q2 q
  refine stop [] ry i s H acc (.inl ?_) I hSH st hf q1 q2 (by unfold am6 at q;exact q)
  rw [List.getElem?_eq_none_iff]
  exact List.drop_eq_nil_iff.mp hx
 | cons x rx ih =>
  intro ry i s H acc hx hy hl I hSH st hf q1 q2 q
  cases ry with
  | nil =>
   refine stop [] [] i s H acc (.inr ?_) I hSH st hf q1 q2 (by unfold am6 at q;exact q)
   rw [List.getElem?_eq_none_iff]
   exact List.drop_eq_nil_iff.mp hy
  | cons y ry =>
   have hxi:xs[i]?=some x:=by rw [<-List.head?_drop,hx];rfl
   have hyi:ys[i]?=some y:=by rw [<-List.head?_drop,hy];rfl
   have hx':xs.drop (i+1)=rx:=by rw [<-List.tail_drop,hx];rfl
   have hy':ys.drop (i+1)=ry:=by rw [<-List.tail_drop,hy];rfl
   obtain ⟨its,rv,p,hzz⟩:=I.list q1
   obtain ⟨its2,rv2,p2,_⟩:=I.list q2
   obtain ⟨u,hu,ru⟩:=rv.get hxi
   obtain ⟨u2,hu2,ru2⟩:=rv2.get hyi
   obtain ⟨hz0,itS,nS,rS,eS⟩:=I.hok S _ hSH
   refine codeAny_builtin PySem.F.entry_extend_loop ?_
   rw [Around.under_plainId PySem.F.plain_extend_loop _]
   show wpAny _ A.in1 (pyNext (.ref z) >>= _) _ _ _
   refine wpAny_bind (bb5 (S:=S) D (Heap.lt_size eS) st p.isList p2.isList (x:=u) (y:=u2) (by simpa using hu) (by simpa using hu2) fun h' st' hT hk=>?_)
   have hfr:H s.heap.objs.size=none:=I.hok.fresh (Nat.le_refl _)
   have new:r9 X.prog X.w (upd H s.heap.objs.size (.tup [x,y])) h' s.heap.objs.size (.tup [x,y]) :=
    ⟨by show 2<=sizeLine;decide,[u,u2],.cons ru (.cons ru2 .nil),⟨_,hT,rfl,_,rfl⟩⟩
   have I1:Inv X pins σ (upd H s.heap.objs.size (.tup [x,y])) { s with heap:=h' } :=
    I.turnedNew (t':=s.toks) (ch:=[z,TI,TO,i1,i2]) (fun c o hb q=>hk c o (fun q'=>hb (by simp [q'])) (fun q'=>hb (by simp [q'])) (fun q'=>hb (by simp [q'])) (fun q'=>hb (by simp [q'])) q) (fun b hb=>(hf b hb).1) (Nat.le_refl _) new
   have SneT:S≠s.heap.objs.size:=Nat.ne_of_lt (Heap.lt_size eS)
   have hSH1:(upd H s.heap.objs.size (.tup [x,y])) S=some (.lst acc):=by rw [d6 SneT];exact hSH
   obtain ⟨_,itS,nS,rS,eS1⟩:=I1.hok S _ hSH1
   have hSl:=rS.length
   have hlen:i < sizeLine:=Nat.lt_of_lt_of_le (List.getElem?_eq_some_iff.mp hxi).1 hzz
   show wpAny _ A.in1 (updateSeq S (·.push (Value.ref s.heap.objs.size)) >>= _) _ _ _
   refine wpAny_bind ?_
   have eS2:=Heap.get?_update_self (Obj.mapSeq (·.push (Value.ref s.heap.objs.size))) eS1 rfl
   have oth:∀ b o,b≠S->h'.get? b=some o->(h'.update S (Obj.mapSeq (·.push (Value.ref s.heap.objs.size)))).get? b=some o:=fun b o hb e=>(Heap.get?_update_other _ _ (Ne.symm hb)).trans e
   have I2:Inv X pins σ (upd (upd H s.heap.objs.size (.tup [x,y])) S (.lst (acc++[.ref s.heap.objs.size]))) { s with heap:=h'.update S (Obj.mapSeq (·.push (Value.ref s.heap.objs.size))) }:=by
    refine I1.write (t':=s.toks) (by rw [hSH1];trivial) (.inl rfl) oth ⟨_,eS2⟩ ⟨by rw [List.length_append];simp;omega,itS++[Value.ref s.heap.objs.size],nS+1,rS.append (.cons rfl .nil),?_⟩
    rw [eS2]
    simp [Obj.mapSeq]
   refine wpAny_updateSeq eS1 rfl (wpAny_pure ⟨plainId_quiet PySem.F.plain_extend_loop _,ih ry (i+1) _ _ (acc++[.ref s.heap.objs.size]) hx' hy' (by rw [List.length_append,hl];rfl) I2 c7 (st'.keep (fun b o hb e=>oth b o hb e) hS) (fun b hb=>?_) ((q1.other (fun z=>?_)).other n1) ((q2.other (fun z=>?_)).other n2) (q _ hfr)⟩) (by simp;omega) (by simp;omega)
   ·obtain ⟨⟨f0,f1⟩,flt⟩:=hf b hb
    have bS:b≠S:=fun z=>hS (z▸hb)
    refine ⟨⟨?_,f1⟩,?_⟩
    ·rw [d6 bS,d6 (Nat.ne_of_lt flt)];exact f0
    ·show b < (h'.update S (Obj.mapSeq (·.push (Value.ref s.heap.objs.size)))).objs.size
     have e1:=(Heap.SameBut.update (h:=h') S (Obj.mapSeq (·.push (Value.ref s.heap.objs.size)))).1
     rw [e1]
     exact Nat.lt_trans flt (Heap.lt_size hT)
   ·rw [z] at p;exact Nat.lt_irrefl _ p.lt
   ·rw [z] at p2;exact Nat.lt_irrefl _ p2.lt
theorem bC2 {H:Hp}{p:Addr}{o:HO}(h:H p=some o):upd H p o=H:=by
 funext b
 by_cases q:b=p
 ·subst q;rw [c7,h]
 ·rw [d6 q]
theorem aK4:typeLookup (.type "zip") "__len__"=pure none:=by rw [typeLookup_type,builtinLookup_eq_fast];kernel_rfl
theorem aE2:typeLookup (.type "zip") "__length_hint__"=pure none:=by rw [typeLookup_type,builtinLookup_eq_fast];kernel_rfl
theorem bb8 {X:Cx}{pins:List (Addr×Obj)}{σ:St}{A:Around}{Q:VK}{z TI TO i1 i2 S l1 l2:Addr}{xs ys:List V}{s:Shared}{H:Hp}(hh:A.handled=none)(D:ZipApart z TI TO i1 i2 l1 l2)(hS:S∉[z,TI,TO,i1,i2])(n1:l1≠S)(n2:l2≠S)
  (I:Inv X pins σ H s) (hSH:H S=some (.lst [])) (hz:IsZip s.heap z TI TO .none) (st:ZSt s.heap z TI TO i1 i2 S l1 l2 0) (hf:∀ b∈[z,TI,TO,i1,i2],Y9 X pins H b/\b < s.heap.objs.size) (q1:SqL X.K H l1 xs) (q2:SqL X.K H l2 ys) (q:am6 S Q xs ys [] H) :
  wpAny (model X.prog X.w) A.in1 (Builtin.«list.__init__» ⟨[.ref S,.ref z],[]⟩)
   (fun fin s'=>match fin with | .done f=>wants (fun r s'=>r=.none/\EP X pins σ Q (.ref S) s') X.xe (.ok f) s' | .again c'=>c'.quiet=true/\codeAny (model X.prog X.w) A c' (wants (fun r s'=>r=.none/\EP X pins σ Q (.ref S) s') X.xe) s') (fun e s'=>wants (fun r s'=>r=.none/\EP X pins σ Q (.ref S) s') X.xe (.error e) s') s:=by
 obtain ⟨hz0,itS,nS,rS,eS⟩:=I.hok S _ hSH
 cases rS
 have Sz:S≠z:=fun e=>hS (by simp [e])
 show wpAny _ _ (do let old ← Builtin.List.listItems (.ref S);Builtin.List.listUpdate (.ref S) (fun _=>#[]);letGo old.toList.reverse;Builtin.List.listExtendWith (.ref S) (.ref z) .none) _ _ s
 refine wpAny_bind ?_
 unfold Builtin.List.listItems
 refine wpAny_bind (wpAny_seqItems eS rfl (wpAny_pure ?_))
 show wpAny _ _ (updateSeq S (fun _=>#[]) >>= fun _=>letGo ([]:List Value).toArray.toList.reverse >>= fun _=>Builtin.List.listExtendWith (.ref S) (.ref z) .none) _ _ s
 refine wpAny_bind (wpAny_updateSeq eS rfl ?_)
 have eS1:=Heap.get?_update_self (Obj.mapSeq (fun _=>(#[]:Array Value))) eS rfl
 have o1:∀ b o,b≠S->s.heap.get? b=some o->(s.heap.update S (Obj.mapSeq (fun _=>(#[]:Array Value)))).get? b=some o:=fun b o hb e=>(Heap.get?_update_other _ _ (Ne.symm hb)).trans e
 have s1:=(Heap.SameBut.update (h:=s.heap) S (Obj.mapSeq (fun _=>(#[]:Array Value)))).1
 refine wpAny_bind (wpAny_letGo ?_)
 generalize hh1:s.heap.update S (Obj.mapSeq (fun _=>(#[]:Array Value)))=h1 at eS1 o1 s1
 unfold Builtin.List.listExtendWith
 have hz1:IsZip h1 z TI TO .none:=o1 _ _ (Ne.symm Sz) hz
 refine wpAny_bind (wpAny_typeOf (T:="zip") ⟨_,hz1,rfl⟩ ?_)
 have g1:Builtin.List.listSameRef (.ref S) (.ref z)=false:=by simp [Builtin.List.listSameRef,Sz]
 have g2:(Value.type "zip" == Value.type "list")=false:=by decide
 have g3:(Value.type "zip" == Value.type "tuple")=false:=by decide
 simp only [g1,g2,g3,Bool.or_false,Bool.false_eq_true,if_false]
 refine wpAny_bind (wpAny_pyIter_zip hz1 ?_)
 refine wpAny_bind (wpAny_holding ?_)
 unfold Builtin.List.listLengthHint
 refine wpAny_bind (wpAny_specialOf (T:="zip") ⟨_,hz1,rfl⟩ aK4 ?_)
 show wpAny _ A.in1 (specialOf (Value.ref z) (Str.ofString "__length_hint__") >>= _) _ _ _
 refine wpAny_bind (wpAny_specialOf (T:="zip") ⟨_,hz1,rfl⟩ aE2 ?_)
 refine wpAny_pure ?_
 show wpAny _ A.in1 (rule "list.extend.makes-room" >>= fun _=>Builtin.List.listTouch (.ref S) >>= fun _ =>
  again (.builtin "list.extend.loop" ⟨[.ref S,.ref z,.none],[]⟩)) _ _ _
 refine wpAny_bind (wpAny_rule ?_)
 refine wpAny_bind ?_
 show wpAny _ A.in1 (updateSeq S (·.push .none) >>= fun _=>updateSeq S (·.pop)) _ _ _
 refine wpAny_bind (wpAny_updateSeq eS1 rfl ?_)
 have eS2:=Heap.get?_update_self (Obj.mapSeq (·.push Value.none)) eS1 rfl
 refine wpAny_updateSeq (hz:=by seq_fits) eS2 rfl ?_
 have eS3:=Heap.get?_update_self (Obj.mapSeq (·.pop)) eS2 rfl
 have o2:∀ b o,b≠S->h1.get? b=some o->((h1.update S (Obj.mapSeq (·.push Value.none))).update S (Obj.mapSeq (·.pop))).get? b=some o :=
  fun b o hb e=>(Heap.get?_update_other _ _ (Ne.symm hb)).trans ((Heap.get?_update_other _ _ (Ne.symm hb)).trans e)
 have s2:((h1.update S (Obj.mapSeq (·.push Value.none))).update S (Obj.mapSeq (·.pop))).objs.size=h1.objs.size:=by
  rw [(Heap.SameBut.update (h:=h1.update S (Obj.mapSeq (·.push Value.none))) S (Obj.mapSeq (·.pop))).1,(Heap.SameBut.update (h:=h1) S (Obj.mapSeq (·.push Value.none))).1]
 generalize hh3:(h1.update S (Obj.mapSeq (·.push Value.none))).update S (Obj.mapSeq (·.pop))=h3 at eS3 o2 s2
 have o3:∀ b o,b≠S->s.heap.get? b=some o->h3.get? b=some o:=fun b o hb e=>o2 b o hb (o1 b o hb e)
 have I3:Inv X pins σ (upd H S (.lst [])) { s with heap:=h3 }:=I.write (t':=s.toks) (by rw [hSH];trivial) (.inl rfl) o3 ⟨_,eS3⟩ ⟨hz0,[],_,.nil,by rw [eS3];rfl⟩
 rw [bC2 hSH] at I3
 exact wpAny_pure ⟨plainId_quiet PySem.F.plain_extend_loop _,bb7 hh D hS n1 n2 xs ys 0 _ H [] rfl rfl rfl I3 hSH (st.keep o3 hS) (fun b hb=>⟨(hf b hb).1,by show b < h3.objs.size;rw [s2,s1];exact (hf b hb).2⟩) q1 q2 q⟩
theorem aP0:bootBuiltins "list"=some (.type "list"):=by decide +kernel
def bS5 (K:W.Frag)(ta:TA):TE:=fun σ H Q=>ta σ H fun vs H1=>∃ a b xs ys,vs=[.ref a,.ref b]/\SqL K H1 a xs/\SqL K H1 b ys/\∀ l,H1 l=none->am6 l Q xs ys [] (upd H1 l (.lst []))
theorem au8 {X:Cx}{pins:List (Addr×Obj)}{σ:St}{Q:VK}{l1 l2:Addr}{xs ys:List V}{s:Shared}{H:Hp}(hc:X.calm=true)(I:Inv X pins σ H s)(q1:SqL X.K H l1 xs)(q2:SqL X.K H l2 ys)(q:∀ l,H l=none->am6 l Q xs ys [] (upd H l (.lst []))) :
  wpAny (model X.prog X.w) X.A (call (.type "zip") [.ref l1,.ref l2]) (fun z s'=>wpAny (model X.prog X.w) X.A (call (.type "list") [z]) (EP X pins σ Q) X.xe s') X.xe s:=by
 obtain ⟨its,rv,p1,_⟩:=I.list q1
 obtain ⟨its2,rv2,p2,_⟩:=I.list q2
 have la:l1 < s.heap.objs.size:=p1.lt
 have lb:l2 < s.heap.objs.size:=p2.lt
 refine call_zip_2 p1.isList p2.isList fun h' hz hTI hTO h1 h2 hsz hk=>?_
 have I2:Inv X pins σ H { s with heap:=h' }:=I.kept (t':=s.toks) hk
 have hh:X.A.in1.handled=none:=I.ok.hd hc
 refine callType_codes (Q₁:=fun obj s₁=>obj=.ref h'.objs.size/\s₁={ s with heap:=h'.push { cls:=.type "list",data:=.seq #[] } }) PySem.F.called_list (PySem.F.typeCall_list_1 _) PySem.F.entry_list_init
  (code_list_new (s:={ s with heap:=h' }) _ ⟨rfl,rfl⟩) fun obj s₁ h₁=>?_
 obtain ⟨rfl,rfl⟩:=h₁
 have hS:(h'.push { cls:=.type "list",data:=.seq #[] }).get? h'.objs.size=some { cls:=.type "list",data:=.seq #[] }:=Heap.get?_push_size _ rfl
 have up:∀ b o,h'.get? b=some o->(h'.push { cls:=.type "list",data:=.seq #[] }).get? b=some o:=fun b o e=>Heap.get?_push_of_some _ e
 have hfr:H h'.objs.size=none:=I.hok.fresh (by rw [hsz];exact Nat.le_add_right _ _)
 have I3:Inv X pins σ (upd H h'.objs.size (.lst [])) { s with heap:=h'.push { cls:=.type "list",data:=.seq #[] } }:=I2.laid (t':=s.toks) up (Nat.le_refl _) ⟨Nat.zero_le _,[],_,.nil,hS⟩
 have mem:∀ b,b∈[s.heap.objs.size+4,s.heap.objs.size+2,s.heap.objs.size+3,s.heap.objs.size,s.heap.objs.size+1]->s.heap.objs.size<=b/\b < h'.objs.size:=by
  intro b hb
  have e':b=s.heap.objs.size+4\/b=s.heap.objs.size+2\/b=s.heap.objs.size+3\/b=s.heap.objs.size\/b=s.heap.objs.size+1:=by simpa using hb
  rw [hsz]
  rcases e' with z | z | z | z | z<;>rw [z]<;>exact ⟨by first | exact Nat.le_refl _ | exact Nat.le_add_right _ _,by first | exact Nat.lt_add_of_pos_right (by decide) | exact Nat.add_lt_add_left (by decide) _⟩
 refine ⟨⟨_,hS,rfl⟩,PySem.F.args_list_init_2 _ _,bb8 (A:=X.A.in1) hh (W.ktu_apart s.heap.objs.size l1 l2 la lb) (fun hb=>Nat.lt_irrefl _ (mem _ hb).2) (fun e=>?_) (fun e=>?_) I3 c7 (up _ _ hz) ⟨up _ _ hTI,h1.at fun o e=>up _ _ e,h2.at fun o e=>up _ _ e,.inl ⟨up _ _ hz,_,_,up _ _ hTO⟩⟩ (fun b hb=>⟨?_,?_⟩) (q1.other fun e=>?_) (q2.other fun e=>?_) (q _ hfr)⟩
 ·rw [hsz] at e;rw [e] at la;exact absurd la (Nat.not_lt.mpr (Nat.le_add_right _ _))
 ·rw [hsz] at e;rw [e] at lb;exact absurd lb (Nat.not_lt.mpr (Nat.le_add_right _ _))
 ·exact I.fpOk (mem b hb).1 (by rw [d6 (Nat.ne_of_lt (mem b hb).2)];exact I.hok.fresh (mem b hb).1)
 ·show b < (h'.push { cls:=.type "list",data:=.seq #[] }).objs.size
  rw [Heap.size_push]
  exact Nat.lt_succ_of_lt (mem b hb).2
 ·rw [hsz] at e;rw [e] at la;exact absurd la (Nat.not_lt.mpr (Nat.le_add_right _ _))
 ·rw [hsz] at e;rw [e] at lb;exact absurd lb (Nat.not_lt.mpr (Nat.le_add_right _ _))
theorem aq8 {X:Cx}{e e2:Expr}{ta:TA}{p p2 pos pos2:Pos}(hc:X.calm=true)(hgl:Gl X "list")(hml:X.mg "list"=none)(hg:Gl X "zip")(hm:X.mg "zip"=none)(ha:PA X [e,e2] ta)
  (hs:starEach [e,e2] X.env=(false,eval e X.env)::starEach [e2] X.env:=by rfl) (hpl:(backTo pos2 (starEach [e2] X.env)).any (·.1)=false:=by rfl)
  (hs1:starEach [.Call (.Name "zip" p2) [e,e2] [] pos2] X.env=(false,eval (.Call (.Name "zip" p2) [e,e2] [] pos2) X.env)::starEach [] X.env:=by rfl) (hpl1:(backTo pos (starEach [] X.env)).any (·.1)=false:=by rfl) :
  PE X (.Call (.Name "list" p) [.Call (.Name "zip" p2) [e,e2] [] pos2] [] pos) (bS5 X.K ta):=by
 intro pins s σ H Q I h
 refine Call_ (aC4 I hgl hml aP0 (PyProof.Rows.callWith_type1 ?_ hs1 hpl1))
 rw [hs1]
 show wpAny _ _ (spliced ((false,eval (.Call (.Name "zip" p2) [e,e2] [] pos2) X.env)::backTo pos (starEach [] X.env))) _ _ s
 refine Calls.spliced_cons ?_
 refine Call_ (aC4 I hg hm ba9 (PyProof.Rows.callWith_type1 (thn (ha pos2 pins s σ H _ I h) fun us s1 ⟨vs,H1,I1,r1,q1⟩=>?_) hs hpl))
 obtain ⟨a,b,xs,ys,ex,hqx,hqy,q⟩:=q1
 subst ex
 cases r1 with
 | cons r rr =>
  cases rr with
  | cons r' rr =>
   cases rr
   cases r
   cases r'
   exact thn (au8 hc I1 hqx hqy q) fun z s2 hz=>Calls.spliced_nil hz
end L2
set_option maxHeartbeats 4000000
namespace L2
open PySem PySem.Spec PyProof.Rows
structure Cal (P:Program)(w:World)(K:W.Frag)(mg:Str->Option Value)(base:Heap)(k:Nat)(f:Addr)(Φ:Hp->Prop)(sp:Sp):Prop where
 fn:∀ (h:Heap) (H:Hp),K.In h->HOk P w H h->Φ H->∃ q,(q=Keeper.frame\/q=Keeper.machine\/q=Keeper.boundFrame)/\W.Looks (model P w) h (keeperOf (.ref f)) q
 run:∀ (A:Around) (outer:List Env) (s:Shared) (H:Hp) (us:List Value) (vs:List V) (Q:VK) (E:XK),C2 k A->at9 P w K mg base A outer s H->Φ H->n9 vs us->sp vs H Q E ->
  codeAny (model P w) A (.call (.ref f) ⟨us,[]⟩) (CR (cxX P w) outer P w H s Q E) s
section
variable {X:Cx}{k i:Nat}{x:Str}{E:XK}{p pos:Pos}{e:Expr}{es:List Expr}{t:TA}
def be4 (P:Program)(w:World)(K:W.Frag)(mg:Str->Option Value)(base:Heap)(k i:Nat)(E:XK)(t:TA):TE:=fun σ H Q=>∃ f Φ sp,σ[i]?=some (some (.ref f))/\Cal P w K mg base k f Φ sp/\t σ H fun vs H1=>Φ H1/\sp vs H1 Q E
theorem bi4 (hN:X.N[i]?=some x)(hv:Vis X.env.scope x)(hr:C2 k X.A)(hx:B3 (cxX X.prog X.w) X E)(ha:PA X (e::es) t)(hd:(x == ("__debug__" : Str))=false:=by decide)(hcd:(x == ("__classdict__" : Str))=false:=by decide)
  (he:starEach (e::es) X.env=(false,eval e X.env)::starEach es X.env:=by rfl) (hpl:(backTo pos (starEach es X.env)).any (·.1)=false:=by rfl) :
  PE X (.Call (.Name x p) (e::es) [] pos) (be4 X.prog X.w X.K X.mg X.base k i E t):=by
 intro pins s σ H Q I h
 obtain ⟨f,Φ,sp,hi,C,h⟩:=h
 refine wpAny_Call_Name_kw (thn (bi2 hN hv hd hcd pins s σ H (fun v H'=>v=.ref f/\H'=H) I ⟨_,hi,rfl,rfl⟩) fun u s1 ⟨v,H1,I1,r,ev,eH⟩=>?_)
 subst ev eH
 cases r
 have ev:wpAny (model X.prog X.w) X.A (spliced (backTo pos (starEach (e::es) X.env))) (fun vs s₁=>(∃ q,(q=Keeper.frame\/q=Keeper.machine\/q=Keeper.boundFrame)/\W.Looks (model X.prog X.w) s₁.heap (keeperOf (.ref f)) q)/\wpAny (model X.prog X.w) X.A (call (.ref f) ([]++vs)) (EP X pins σ Q) X.xe s₁) X.xe s1:=by
  refine thn (ha pos pins s1 σ H1 _ I1 h) fun us s2 ⟨vs,H2,I2,r,hΦ,q⟩=>⟨C.fn _ _ I2.kIn I2.hok hΦ,?_⟩
  refine wpAny_call (codeAny_mono (C.run X.A X.stack s2 H2 us vs Q E hr I2.env0 hΦ r q) fun r s' hq=>?_)
  cases r with
  | error e=>exact hx pins σ H2 s2 e s' I2 hq
  | ok fl =>
   cases fl with
   | ret u=>exact I2.after hq
   | next=>exact False.elim hq
   | brk=>exact False.elim hq
   | cont=>exact False.elim hq
 rw [he] at ev ⊢
 exact W.callWith_of (P:=fun h=>∃ q,(q=Keeper.frame\/q=Keeper.machine\/q=Keeper.boundFrame)/\W.Looks (model X.prog X.w) h (keeperOf (.ref f)) q) (by show ((false || (backTo pos (starEach es X.env)).any (·.1)) || false)=false;rw [hpl];rfl) (fun h z=>z) (Calls.evalArgs_plain ev)
end
theorem bc0 {l:Addr}{Q:VK}{G H:Hp}(hl:H l=none):∀ (xs ys:List V) (Ts:List Addr) (dn:List (V×V)) (G1 H1:Hp),Ext [] G H G1 H1->G1 l=none->H1 l=some (.lst (Ts.map V.ref))->Paired (fun T (p:V×V)=>G1 T=some (.tup [p.1,p.2])) Ts dn ->
  (∀ G' H' Ts',Ext [] G H G' H'->G' l=some (.lst (Ts'.map V.ref))->Paired (fun T (p:V×V)=>G' T=some (.tup [p.1,p.2])) Ts' (dn++xs.zip ys)->Q (.ref l) H')->am6 l Q xs ys (Ts.map V.ref) H1:=by
 intro xs
 have stop:∀ (Ts:List Addr) (dn:List (V×V)) (G1 H1:Hp),Ext [] G H G1 H1->G1 l=none->H1 l=some (.lst (Ts.map V.ref))->Paired (fun T (p:V×V)=>G1 T=some (.tup [p.1,p.2])) Ts dn ->
   (∀ G' H' Ts',Ext [] G H G' H'->G' l=some (.lst (Ts'.map V.ref))->Paired (fun T (p:V×V)=>G' T=some (.tup [p.1,p.2])) Ts' (dn++[])->Q (.ref l) H')->Q (.ref l) H1:=by
  intro Ts dn G1 H1 e gl hl1 hp k
  have e2:=e.freeze hl1 hl
  refine k _ _ Ts e2 c7 ?_
  rw [List.append_nil]
  refine Paired.map' (fun T p h=>?_) hp
  have ne:T≠l:=fun z=>by rw [z,gl] at h;cases h
  rw [d6 ne];exact h
 induction xs with
 | nil =>
  intro ys Ts dn G1 H1 e gl hl1 hp k
  unfold am6
  exact stop Ts dn G1 H1 e gl hl1 hp k
 | cons x xs ih =>
  intro ys Ts dn G1 H1 e gl hl1 hp k
  cases ys with
  | nil=>unfold am6;exact stop Ts dn G1 H1 e gl hl1 hp k
  | cons y ys =>
   unfold am6
   intro T hT
   have Tl:T≠l:=fun z=>by rw [z,hl1] at hT;cases hT
   have gl2:(upd G1 T (.tup [x,y])) l=none:=by rw [d6 (Ne.symm Tl)];exact gl
   have e2:=(e.lay hT (o:=.tup [x,y])).put (p:=l) (o:=.lst ((Ts++[T]).map V.ref)) (.inl hl) gl2
   have:=ih ys (Ts++[T]) (dn++[(x,y)]) _ _ e2 gl2 c7 ?_ ?_
   ·rw [List.map_append] at this
    exact this
   ·refine Paired.snoc (Paired.map' (fun T' p h=>?_) hp) c7
    have ne:T'≠T:=fun z=>by
     have:=e.sub _ _ h
     rw [z,hT] at this;cases this
    rw [d6 ne];exact h
   ·intro G' H' Ts' e' g' p'
    refine k G' H' Ts' e' g' ?_
    rw [List.append_assoc] at p'
    exact p'
theorem aP5 {l:Addr}{Q:VK}{G H:Hp}{xs ys:List V}(sm:j6 G H)(hl:H l=none)(k:∀ G' H' Ts,Ext [] G H G' H'->G' l=some (.lst (Ts.map V.ref))->Paired (fun T (p:V×V)=>G' T=some (.tup [p.1,p.2])) Ts (xs.zip ys)->Q (.ref l) H'):am6 l Q xs ys [] (upd H l (.lst [])) :=
 bc0 hl xs ys [] [] G (upd H l (.lst [])) ((Ext.refl sm).lend hl) (sm.free hl) c7 .nil k
end L2
set_option maxHeartbeats 4000000
namespace L2
open PySem PySem.Spec PyProof.Rows
section
variable {X:Cx}{x C fI:Addr}{oe:Obj}{vs:Array Value}{names:List Str}{f:Str}{o:Expr}{pos:Pos}{to:TE}
def bd9 (x:Addr)(od:Option Addr)(to:TE)(f:Str):TE:=fun σ H Q=>to σ H fun v H1=>v=.ref x/\∃ d fs y,od=some d/\H1 d=some (xdO d fs)/\fs.lookup f=some y/\Q y H1
theorem aS1 (hp:(x,oe)∈X.pn)(hc:oe.cls=.ref C)(hd:oe.data=.fields vs)(c:aD9 X.K C fI names)(hf:f∈names)(hB:typeLookup (.type "Exception") f=pure none)(he:PE X o to)(hb:attributeBase o f X.env (eval o X.env)=eval o X.env) :
  PE X (.Attribute o f pos) (bd9 x oe.dict to f):=by
 intro pins s σ H Q I h
 refine aU7 hb (thn (he pins s σ H _ I h) fun u s1 ⟨v,H1,I1,rx,ev,d,fs,y,ed,hx,hl,q⟩=>?_)
 subst ev
 obtain rfl:u=Value.ref x:=rx
 obtain ⟨cn,cq,Nc,cb,csn,csub,cab,ccol,cdd,p0,p1,p2,p3,p5,mC,hC,hN,_,hno⟩:=af4 I1.kIn c.ini
 obtain ⟨hx0,_,_,_,_⟩:=I1.pin (x,oe) (List.mem_append_left _ hp)
 obtain ⟨⟨mA,n,r,wi⟩,_,_⟩:=(show r9 X.prog X.w H1 s1.heap d (xdO d fs) from I1.hok d _ hx)
 obtain ⟨u,hu,ru⟩:=V3.some_of (v:=y) (o:=mA f) (by rw [<-hl];exact r f)
 have I2:=I1.tok (s1.toks+1)
 obtain ⟨hh,gg,dd,tt,oo⟩:=s1
 exact bM5 PySem.F.attrBase_Exception hC hN (hno _ c.ga) (hno _ c.gt) (hno _ hf) hB hx0 hc hd ed n hu (W.handedOut_of (ax7 ru)) ⟨y,H1,I2,ru,q⟩
end
end L2
set_option maxHeartbeats 1000000
namespace L2
open PySem PySem.Spec PyProof.Rows
def fnO (f:Addr)(o:Obj):HO:=.ext fun h=>h.get? f=some o
def cdO (c:Addr)(q:Str):HO:=.ext fun h=>h.CodeRec (.ref c) q
section
variable {P:Program}{w:World}{H:Hp}{h:Heap}
theorem bK6 {f:Addr}{o:Obj}(e:h.get? f=some o):r9 P w H h f (fnO f o):=⟨e,⟨o,e⟩,fun h1 h2 q k=>k _ q⟩
theorem bL7 {c:Addr}{q:Str}(e:h.CodeRec (.ref c) q):r9 P w H h c (cdO c q):=by
 obtain ⟨c',oc,vs,t,e1,ho,hd,hv⟩:=id e
 cases e1
 refine ⟨e,⟨oc,ho⟩,fun h1 h2 x k=>?_⟩
 obtain ⟨c',oc,vs,t,e1,ho,hd,hv⟩:=x
 cases e1
 exact ⟨_,oc,vs,t,rfl,k _ ho,hd,hv⟩
end
def aC8 (K:W.Frag)(c Pt:Addr):Bool:=match K.lookup c with
 | some ⟨.type "code",_,.fields vs,_⟩=>(match (vs[11]?:Option Value),vs.getD 11 .none,vs.getD 18 .none,vs.getD 7 .none,vs.getD 9 .none,vs.getD 10 .none with
  | some (.ref q),.ref q',.str _ _,.int _ _,.bool _,.int _ _=>q == Pt && q' == Pt && c != Pt
  | _,_,_,_,_,_=>false)
 | _=>false
theorem bm4 {K:W.Frag}{c Pt:Addr}(e:aC8 K c Pt=true){h:Heap}(X:K.In h):W.CodeHd h c Pt:=by
 unfold aC8 at e
 split at e
 ·rename_i od vs sl ho
  split at e
  ·rename_i q q' file tf flags tg inF text tt h1 h2 h3 h4 h5 h6
   simp only [Bool.and_eq_true,beq_iff_eq,bne_iff_ne] at e
   obtain ⟨⟨rfl,rfl⟩,ne⟩:=e
   exact ⟨_,vs,_,_,_,_,_,_,_,X _ _ ho,rfl,rfl,h1,h2,h3,h4,h5,h6,ne⟩
  ·cases e
 ·cases e
def bT0 (clos:List (Str×Addr))(Pt:Addr)(pos:Pos)(qual:Str)(params:Arguments)(body:Expr)(scope:Scope):TE:=fun _ H Q=>∃ tb:Array Value,H Pt=some (.tbl tb)/\TriplesOk tb.toList/\codeAmong pos tb.toList=none /\
 ∀ (f c:Addr) (pm ctv:Value),H f=none->H c=none->f≠c->Q (.ref f) (upd (upd (upd H Pt (.tbl (tb++#[rawInt pos.line,rawInt pos.col,.ref c]))) c (cdO c qual)) f (fnO f (W.kla_obj "<lambda>" qual params body scope clos pm c ctv)))
theorem bF4 {X:Cx}{clos:List (Str×Addr)}{params:Arguments}{body:Expr}{scope:Scope}{pos:Pos}{cm Pt:Addr}(hdef:defaultsOf params X.env=([],[]))(hcl:closureFor scope X.env=pure clos)(hcode:X.env.code=.ref cm)(hC:aC8 X.K cm Pt=true) :
  PE X (.Lambda params body scope pos) (bT0 clos Pt pos (X.env.qual++"<lambda>") params body scope):=by
 intro pins s σ H Q I hq
 obtain ⟨tb,hPt,htr,hnf,hq⟩:=hq
 have hP:s.heap.get? Pt=some (W.tabObj tb):=I.hok Pt _ hPt
 have hgs:s.heap.Ns mainGlobals X.mg:=I.ok.mod.glob.keeps I.bk
 have hgP:mainGlobals≠Pt:=fun q=>by
  obtain ⟨o,es,ep,e,hd,_⟩:=hgs
  rw [q,hP] at e;cases e;cases hd
 have hbA:s.heap.BuiltinsAt X.mg Pt:=by
  obtain ⟨bm,ob,b1,b2,b3,b4,b5,b6⟩:=I.ok.mod.bmain
  have b3':=I.bk _ _ b3
  refine ⟨bm,ob,b1,b2,fun q=>?_,fun q=>?_,b3',b4,b5,b6⟩
  ·obtain ⟨o,es,ep,e,hd,_⟩:=hgs
   rw [q,e] at b3';cases b3';rw [hd] at b6;cases b6
  ·rw [q,hP] at b3';cases b3';cases b4
 refine W.kla_eval hdef (W.kla_makeFunction hcl I.ok.glob hgs hcode (bm4 hC I.kIn) hP htr hnf hgP hbA fun c ctv h' tk hx hge hlt hrec htb=>?_)
 generalize hob:W.kla_obj "<lambda>" (X.env.qual++"<lambda>") params body scope clos ((X.mg "__name__").getD .none) c ctv=ob
 have hfr:ob.isFreed=false:=by rw [<-hob];rfl
 have hc0:H c=none:=I.hok.fresh hge
 have hf0:H h'.objs.size=none:=I.hok.fresh (Nat.le_trans hge (Nat.le_of_lt hlt))
 have nfc:h'.objs.size≠c:=Nat.ne_of_gt hlt
 have key:=hq h'.objs.size c ((X.mg "__name__").getD .none) ctv hf0 hc0 nfc
 rw [hob] at key
 refine ⟨.ref h'.objs.size,_,?_,rfl,key⟩
 have npc:Pt≠c:=i0 hPt hc0
 have npf:Pt≠h'.objs.size:=i0 hPt hf0
 have lt0:∀ b o,s.heap.get? b=some o->b≠c/\b≠h'.objs.size:=fun b o e=>by
  have:=Heap.lt_size e
  exact ⟨Nat.ne_of_lt (Nat.lt_of_lt_of_le this hge),Nat.ne_of_lt (Nat.lt_trans (Nat.lt_of_lt_of_le this hge) hlt)⟩
 have put:∀ b,b≠Pt->b≠c->b≠h'.objs.size->(upd (upd (upd H Pt (.tbl (tb++#[rawInt pos.line,rawInt pos.col,.ref c]))) c (cdO c (X.env.qual++"<lambda>"))) h'.objs.size (fnO h'.objs.size ob)) b=H b:=fun b h1 h2 h3=>by
  rw [d6 h3,d6 h2,d6 h1]
 have atP:(upd (upd (upd H Pt (.tbl (tb++#[rawInt pos.line,rawInt pos.col,.ref c]))) c (cdO c (X.env.qual++"<lambda>"))) h'.objs.size (fnO h'.objs.size ob)) Pt=some (.tbl (tb++#[rawInt pos.line,rawInt pos.col,.ref c])):=by
  rw [d6 npf,d6 npc,c7]
 have neH:∀ b o,H b=some o->b≠c/\b≠h'.objs.size:=fun b o e=>⟨i0 e hc0,i0 e hf0⟩
 have kp:∀ b o,b≠Pt->s.heap.get? b=some o->(h'.push ob).get? b=some o:=fun b o hb e=>Heap.get?_push_of_some _ (hx b o hb e)
 refine I.un (t':=tk) ⟨fun b o e n _ _=>?_,fun b o e n _ _=>?_,fun b o e n _=>?_,fun b o e _=>?_,fun b xs e=>?_,fun b o u e=>?_,fun b ps e=>?_⟩ fun b o e=>?_
 ·exact kp b o (fun z=>by rw [z,hPt] at n;cases n) e
 ·exact ⟨o.slots,kp b o (fun z=>by rw [z,hPt] at n;cases n) e⟩
 ·rw [put b (fun z=>by rw [z,hPt] at n;cases n) (lt0 b o e).1 (lt0 b o e).2];exact n
 ·by_cases hb:b=Pt
  ·exact ⟨_,by rw [hb];exact Heap.get?_push_of_some _ htb⟩
  ·exact ⟨o,kp b o hb e⟩
 ·rw [put b (fun z=>by rw [z,hPt] at e;cases e) (neH b _ e).1 (neH b _ e).2];exact e
 ·rw [put b (fun z=>by rw [z,hPt] at e;cases e) (neH b _ e).1 (neH b _ e).2];exact e
 ·by_cases hb:b=Pt
  ·subst hb
   rw [hPt] at e;cases e
   exact ⟨_,atP⟩
  ·exact ⟨#[],by rw [put b hb (neH b _ e).1 (neH b _ e).2,e];simp⟩
 ·by_cases h1:b=h'.objs.size
  ·subst h1
   rw [c7] at e;cases e
   exact bK6 (Heap.get?_push_size _ hfr)
  ·by_cases h2:b=c
   ·subst h2
    rw [d6 h1,c7] at e;cases e
    exact bL7 (hrec.push _)
   ·by_cases h3:b=Pt
    ·subst h3
     rw [atP] at e;cases e
     exact Heap.get?_push_of_some _ htb
    ·rw [put b h3 h2 h1] at e
     refine (I.hok b o e).stay (fun d v hd q=>kp d v (fun z=>?_) q) (fun d q=>?_) fun d xs q=>?_
     ·rcases hd with hd | hd
      ·exact h3 (hd▸z)
      ·rw [z,hPt] at hd;cases hd
     ·rw [put d (fun z=>by rw [z,hPt] at q;cases q) (neH d _ q).1 (neH d _ q).2];exact q
     ·rw [put d (fun z=>by rw [z,hPt] at q;cases q) (neH d _ q).1 (neH d _ q).2];exact q
end L2
namespace L2
open PySem PySem.Spec PyProof.Rows
theorem Cal.mono {P:Program}{w:World}{K:W.Frag}{mg:Str->Option Value}{base:Heap}{j k:Nat}{f:Addr}{Φ:Hp->Prop}{sp:Sp}(C:Cal P w K mg base j f Φ sp)(h:j<=k):Cal P w K mg base k f Φ sp :=
 ⟨C.fn,fun A outer s H us vs Q E hr=>C.run A outer s H us vs Q E (hr.mono h)⟩
structure bz2 (K:W.Frag)(x qual:Str)(st:Stmt)(f:Addr)(fd:FuncData)(cm:Addr):Prop where
 ex:∃ (oc:Value) (od:Option Addr) (kV doc pm:Value) (an:Option Addr) (ct:Value) (osl:Array (Option Value)),
  fd=W.fnOf x qual (F4 st) (C1 st) (d7 st) .none kV doc pm an (.ref cm) ct/\K.lookup f=some ⟨oc,od,.func fd,osl⟩/\W.codeIn K (.ref cm) qual=true
theorem bz2.okX {P:Program}{w:World}{K:W.Frag}{mg:Str->Option Value}{base:Heap}{x qual:Str}{st:Stmt}{f cm:Addr}{fd:FuncData}{N ps:List Str}{k:Nat}{sp:Sp}(F:bz2 K x qual st f fd cm)(S:g9 N ps (d7 st))(len:∀ vs H Q E,sp vs H Q E->vs.length=ps.length)
  (hbody:∀ (A:Around) (outer:List Env) (s:Shared) (H:Hp) (vs:List V) (Q:VK) (E:XK),C2 k (A.deeper (envOfC qual (d7 st) s.heap.objs.size f (.ref cm)))->sp vs H Q E ->
   ∃ t,PSs (ah6 (cxX P w) P w K mg base N qual (d7 st) f (.ref cm) A outer s H E) (C1 st) t/\t { nx:=fun _ H'=>Q .non H',rt:=Q } (start N vs) H):l6 P w K mg base (cxX P w) (k+1) f fd ps sp:=by
 obtain ⟨oc,od,kV,doc,pm,an,ct,osl,rfl,lk,hcd⟩:=F.ex
 exact bB4 lk hcd S len fun A outer s H vs Q E hr hsp=>hbody A outer s H vs Q E hr hsp
def bl4 (st:Stmt):Expr:=match (C1 st).getLast? with
 | some (.Return (some (.Call _ es _ _)) _)=>es.getLast?.getD (.Constant .none 0 ⟨0,0,0,0⟩)
 | _=>.Constant .none 0 ⟨0,0,0,0⟩
def bw0 (st:Stmt):Arguments:=match bl4 st with
 | .Lambda a _ _ _=>a
 | _=>{ posonlyargs:=[],args:=[],vararg:=none,kwonlyargs:=[],kw_defaults:=[],kwarg:=none,defaults:=[] }
def bv9 (st:Stmt):Expr:=match bl4 st with
 | .Lambda _ b _ _=>b
 | e=>e
def as1 (st:Stmt):Scope:=match bl4 st with
 | .Lambda _ _ sc _=>sc
 | _=>{ kind:=.function,names:=[],isGenerator:=false,isCoroutine:=false }
def F0 (H:Hp)(Pt:Addr):Hp:=fun b=>if b=Pt then none else H b
theorem aY4 {H:Hp}{Pt:Addr}:j6 (F0 H Pt) H:=fun b o e=>by
 unfold F0 at e
 by_cases h:b=Pt
 ·rw [if_pos h] at e;cases e
 ·rw [if_neg h] at e;exact e
theorem X5 {H:Hp}{Pt:Addr}:F0 H Pt Pt=none:=by unfold F0;rw [if_pos rfl]
theorem m8 {H:Hp}{Pt b:Addr}(h:b≠Pt):F0 H Pt b=H b:=by unfold F0;rw [if_neg h]
theorem bj7 {K:W.Frag}{H:Hp}{Pt a:Addr}{xs:List V}{tb:Array Value}(hP:H Pt=some (.tbl tb))(h:SqL K H a xs):SqL K (F0 H Pt) a xs:=by
 rcases h with (h | ⟨o,h⟩) | h
 ·exact .inl (.inl (by rw [m8 (fun z=>by rw [z,hP] at h;cases h)];exact h))
 ·exact .inl (.inr ⟨o,by rw [m8 (fun z=>by rw [z,hP] at h;cases h)];exact h⟩)
 ·exact .inr h
end L2
set_option maxHeartbeats 2000000
namespace L2
open PySem PySem.Spec PyProof.Rows
open PySem.W (WData Codec OpenSpec Well WellAll ReadsW ReadsAllW)
mutual
theorem bx7 {K:W.Frag}{H H':Hp}(s:j6 H H'):∀ (d:WData) (v:V),Dw K H v d->Dw K H' v d
 | _,_,.non=>.non
 | _,_,.bl b=>.bl b
 | _,_,.int i=>.int i
 | _,_,.str x=>.str x
 | _,_,.byt b=>.byt b
 | _,_,.lst (ds:=ds) (xs:=xs) h r=>.lst (s.seq h) (dwAll_same s ds xs r)
 | _,_,.tup (ds:=ds) (xs:=xs) h r=>.tup (s.seqT h) (dwAll_same s ds xs r)
theorem dwAll_same {K:W.Frag}{H H':Hp}(s:j6 H H'):∀ (ds:List WData) (vs:List V),DwAll K H vs ds->DwAll K H' vs ds
 | _,_,.nil=>.nil
 | _,_,.cons (d:=d) (v:=v) (ds:=ds) (vs:=vs) h r=>.cons (bx7 s d v h) (dwAll_same s ds vs r)
end
theorem bQ9 {K:W.Frag}{H:Hp}{Pt b:Addr}{o:Obj}{u:HO}(nK:∀ b o,K.lookup b=some o->H b=none)(hP:H Pt=some u)(e:K.lookup b=some o)(z:b=Pt):K.lookup b=none:=by
 have:=nK b o e
 rw [z,hP] at this
 cases this
theorem aL4 {P:Program}{w:World}{K:W.Frag}{mg mb:Str->Option Value}{CX:CXT}{k:Nat}{fa cm Pt:Addr}{fd:FuncData}{ps:List Str}{sp:Sp}{s₁:Shared}{vals:List Value}{ds:List WData}{R:W.WRecords}{cl:Str->Option Addr}{d0:WData}
  (KX:K.In s₁.heap) (hns:s₁.heap.Ns mainGlobals mg) (hb:s₁.heap.Ns builtinsNs mb) (hbb:∀ x:Str,x≠"__name__"->mb x=bootBuiltins x) (hlim:s₁.heap.NoLimit) (hdig:s₁.heap.NoDigits) (hsee:s₁.heap.NoSeer) (hbm:∃ bm ob,mg "__builtins__"=some (.ref bm)/\bm≠builtinsNs/\s₁.heap.get? bm=some ob/\ob.cls=.type "module"/\ob.dict=some builtinsNs/\ob.data=.plain) (hg:s₁.gens=#[])
  (hwl:WellAll w.params s₁.heap vals ds) (hpl:plWs ds=true) (hwt:∀ d∈ds,d.weight<=1048576) (hr:C2 k callerA) (hC:aC8 K cm Pt=true) (hPn:K.lookup Pt=none) (hPh:s₁.heap.get? Pt=some (W.tabObj #[]))
  (F:∀ base:Heap,K.In base->base.Ns mainGlobals mg->l6 P w (K) mg base CX k fa fd ps sp) (hbind:∀ (s:Shared) (us:List Value),us.length=ps.length->BindsTo s fd ⟨us,[]⟩ (ps.zip us)) (hlen:ds.length=ps.length)
  (hsp:∀ (H:Hp) (xs:List V),H Pt=some (.tbl #[])->DwAll (K) H xs ds->sp xs H (fun v H'=>Dw (K) H' v d0) fun _ _ _=>False)
  (hCX:∀ H e s',CX [] H s₁ (fun _ _ _=>False) e s'->False) :
  codeAny (model P w) callerA (.call (.ref fa) ⟨vals,[]⟩) (fun r s'=>∃ u as,r=.ok (.ret u)/\ReadsW R cl s'.heap u d0 as/\OldK s₁.heap s'.heap/\s'.os=s₁.os/\AllBare s'.gens) s₁:=by
 have hCh:W.CodeHd s₁.heap cm Pt:=bm4 hC KX
 have KX1:K.In s₁.heap:=KX
 clear KX hC
 generalize K=Kd at *
 obtain ⟨A,ho,ar⟩:=area_all ds vals hwl hpl hwt
 have hO:bB6 (Y1 Kd s₁.heap A):=bb2 ar
 have hok0:HOk P w (Y1 Kd s₁.heap A) s₁.heap:=by8 ar
 have hS0:=dw_all KX1 ar ds vals hwl hpl ho
 have hV:=U0 ho
 have hK:∀ b u,Y1 Kd s₁.heap A b=some u->Kd.lookup b=none:=fun b u q=>(ao3 ar q).1
 have noA:∀ {b:Addr}{o:Obj},s₁.heap.get? b=some o->(∀ c (vs:List Value),(c=.type "list"\/c=.type "tuple")->o≠{ cls:=c,data:=.seq vs.toArray })->Y1 Kd s₁.heap A b=none:=fun {b o} e d=>by
  cases q:Y1 Kd s₁.heap A b with
  | none=>rfl
  | some u =>
   obtain ⟨_,vs,_,_,⟨e2,_⟩ | ⟨e2,_⟩⟩:=ao3 ar q
   ·rw [e2] at e
    cases e
    exact (d _ vs (.inl rfl) rfl).elim
   ·rw [e2] at e
    cases e
    exact (d _ vs (.inr rfl) rfl).elim
 generalize Y1 Kd s₁.heap A=H0 at hO hok0 hS0 hK noA
 have h0P:H0 Pt=none:=noA hPh fun c vs _ z=>by injection z with _ _ z;cases z
 have hne:∀ {b:Addr}{o:HO},H0 b=some o->b≠Pt:=fun {b o} e=>i0 e h0P
 have grow:j6 H0 (upd H0 Pt (.tbl #[])):=fun b o e=>by rw [d6 (hne e)];exact e
 have hS:DwAll Kd (upd H0 Pt (.tbl #[])) (vals.map toV) ds:=dwAll_same grow ds _ hS0
 have hok:HOk P w (upd H0 Pt (.tbl #[])) s₁.heap:=fun b o e=>by
  by_cases hb:b=Pt
  ·subst hb
   rw [c7] at e;cases e
   exact hPh
  ·rw [d6 hb] at e
   exact (hok0 b o e).stay (fun _ _ _ q=>q) (fun c q=>grow c _ q) fun c xs q=>grow c _ q
 have noH:∀ {b:Addr}{o:Obj},s₁.heap.get? b=some o->(∀ c (vs:List Value),(c=.type "list"\/c=.type "tuple")->o≠{ cls:=c,data:=.seq vs.toArray })->o≠W.tabObj #[]->(upd H0 Pt (.tbl #[])) b=none:=fun {b o} e d d2=>by
  rw [d6 (fun z=>by rw [z,hPh] at e;cases e;exact d2 rfl)]
  exact noA e d
 have hP1:(upd H0 Pt (.tbl #[])) Pt=some (.tbl #[]):=c7
 have hcases:∀ b u,(upd H0 Pt (.tbl #[])) b=some u->b=Pt\/(∃ o v,(upd H0 Pt (.tbl #[])) b=some (.frz o v)):=fun b u e=>by
  by_cases hb:b=Pt
  ·exact .inl hb
  ·rw [d6 hb] at e ⊢
   rcases hO b with z | ⟨o,v,z⟩
   ·rw [z] at e;cases e
   ·exact .inr ⟨o,v,z⟩
 have nK:∀ b o,Kd.lookup b=some o->(upd H0 Pt (.tbl #[])) b=none:=fun b o e=>by
  have hb:b≠Pt:=fun z=>by rw [z,hPn] at e;cases e
  rw [d6 hb]
  cases q:H0 b with
  | none=>rfl
  | some u =>
   rw [hK b u q] at e
   cases e
 clear hS0 hok0 hO hK noA h0P hne grow
 generalize upd H0 Pt (.tbl #[])=H at hS hok noH hP1 hcases nK
 have base_of:∀ {b:Addr}{o:Obj},s₁.heap.get? b=some o->H b=none->(aC7 s₁.heap H).get? b=some o:=fun e n=>bm3 e n
 have nsK:∀ {b:Addr}{m:Str->Option Value},s₁.heap.Ns b m->(aC7 s₁.heap H).Ns b m:=fun {b m} ⟨o,es,ep,e,d,r⟩=>⟨o,es,ep,base_of e (noH e (fun c vs _ z=>by rw [z] at d;cases d) (fun z=>by rw [z] at d;cases d)),d,r⟩
 have noM:∀ {b:Addr}{o:Obj},s₁.heap.get? b=some o->o.cls=.type "module"->H b=none:=fun {b o} e d=>noH e (fun c vs hc z=>by rw [z] at d;rcases hc with hc | hc<;>(rw [hc] at d;exact absurd (Value.type.inj d) (by decide))) (fun z=>by rw [z] at d;cases d)
 have hKb:Kd.In (aC7 s₁.heap H):=fun b o e=>base_of (KX1 b o e) (nK b o e)
 have hM:Mod Kd mg (aC7 s₁.heap H):=⟨hKb,nsK hns,⟨mb,nsK hb,hbb⟩,(let ⟨mc,h1,h2⟩:=hlim;⟨mc,nsK h1,h2⟩),(let ⟨mc,h1,h2⟩:=hdig;⟨mc,nsK h1,h2⟩),⟨(let ⟨mc,h1,h2⟩:=hsee.statics;⟨mc,nsK h1,h2⟩),(let ⟨mc,h1,h2⟩:=hsee.mods;⟨mc,nsK h1,h2⟩),(let ⟨mc,h1,h2⟩:=hsee.imp;⟨mc,nsK h1,h2⟩),(let ⟨mg',bm,ob,h1,h2,h3,h4,h5⟩:=hsee.main;⟨mg',bm,ob,nsK h1,h2,base_of h3 (noM h3 h4),h4,h5⟩)⟩,(let ⟨bm,ob,h1,h2,h3,h4,h5⟩:=hbm;⟨bm,ob,h1,h2,base_of h3 (noM h3 h4),h4,h5⟩)⟩
 have e0:at9 P w Kd mg (aC7 s₁.heap H) callerA [] s₁ H:=⟨rfl,hM,fun b o e=>bv0 e,Nat.le_of_eq (aZ9 _ _),trivial,fun b hb=>absurd (show b∈([]:List Addr) from hb) (by simp),hok,.of_eq hg⟩
 have hl:vals.length=ps.length:=by rw [Q4 hwl];exact hlen
 refine codeAny_mono ((F _ hKb (nsK hns)).run callerA [] s₁ H ⟨vals,[]⟩ vals (vals.map toV) _ _ hr e0 (hbind s₁ vals hl) hV (hsp H _ hP1 hS)) fun r s' x=>?_
 cases r with
 | error e=>exact (hCX H e s' x).elim
 | ok fl =>
  cases fl with
  | next=>exact False.elim x
  | brk=>exact False.elim x
  | cont=>exact False.elim x
  | ret u =>
   obtain ⟨v,H',os,bare,un,hok',r',q⟩:=x
   have kept:∀ b o,b≠Pt->s₁.heap.get? b=some o->s'.heap.get? b=some o:=fun b o hbP e=>by
    cases q2:H b with
    | none=>exact un.keep b o e q2 (by intro z;exact absurd (show b∈([]:List Addr) from z) (by simp)) (by simp)
    | some u2 =>
     rcases hcases b _ q2 with z | ⟨ob,u3,z⟩
     ·exact (hbP z).elim
     ·have z2:=un.frzs b ob _ z
      obtain ⟨e1,_⟩:=hok b _ z
      obtain ⟨e2,_⟩:=hok' b _ z2
      rw [e] at e1
      cases e1
      exact e2
   obtain ⟨more,hT⟩:=un.tbls Pt _ hP1
   have hT':s'.heap.get? Pt=some { cls:=.none,data:=.fields (#[]++more) }:=hok' Pt _ hT
   have KX':Kd.In s'.heap:=fun b o e=>kept b o (fun z=>by rw [bQ9 nK hP1 e z] at e;cases e) (KX1 b o e)
   obtain ⟨as,hrd⟩:=Dw.reads (R:=R) (cl:=cl) hok' KX' d0 v u q r'
   refine ⟨u,as,rfl,hrd,⟨fun b o e=>?_,fun b o e=>?_⟩,os,bare⟩
   ·by_cases hbP:b=Pt
    ·subst hbP
     rw [hPh] at e;cases e
     exact .inr (.inl ⟨(hCh.tab hPh).isCodeTable,rfl,#[],more,rfl,hT'⟩)
    ·exact .inl (kept b o hbP e)
   ·by_cases hbP:b=Pt
    ·subst hbP
     exact ⟨_,hT'⟩
    ·exact ⟨o,kept b o hbP e⟩
theorem aK5 {r:OpenSpec}{k:Nat}{q:Program}{loose:List Str}{XP:(Str->Option Value)->Heap->Prop}{YP:World->Heap->Prop}{d:DefRec}{K:Params->W.Frag}{CX:World->CXT}{ps:List Str}{sp:Addr->W.Frag->Sp}
  (hwell:r.wellSaid=true) (himp:PyProof.Rows.importsNone q=true) (hrec:(recsOf q).find? (fun e=>e.name == d.name)=some d) (hdf:d.params.defaults=[]) (hlen:r.args.length=ps.length) (hr:C2 k callerA)
  (hY:∀ (w:World) (h:Heap),YP w h->(K w.params).In h)
  (F:∀ (w:World) (mg:Str->Option Value) (fa:Addr) (h:Heap),YP w h->(K w.params).In h->h.Ns mainGlobals mg->mg d.name=some (.ref fa) ->
   ∃ (cm Pt:Addr) (fd:FuncData),aC8 (K w.params) cm Pt=true/\(K w.params).lookup Pt=none/\(∃ oc od sl,(K w.params).lookup fa=some ⟨oc,od,.func fd,sl⟩/\fd.code=.ref cm)/\(∀ (s:Shared) (us:List Value),us.length=ps.length->BindsTo s fd ⟨us,[]⟩ (ps.zip us)) /\
    ∀ base:Heap,(K w.params).In base->base.Ns mainGlobals mg->l6 r.prog w (K w.params) mg base (CX w) k fa fd ps (sp Pt (K w.params)))
  (hsp:∀ (Pt:Addr) (K:W.Frag) (H:Hp) (xs:List V) (a:Codec.denoteAll r.args),H Pt=some (.tbl #[])->Codec.withinAll r.args a=true->Codec.app r.args r.asked a=true->DwAll K H xs (Codec.encAll r.args a) ->
   sp Pt K xs H (fun v H'=>Dw K H' v (r.ret.enc (Codec.app r.args r.f a))) fun _ _ _=>False)
  (hCX:∀ (w:World) (H:Hp) (s:Shared) (e:Value) (s':Shared),CX w [] H s (fun _ _ _=>False) e s'->False) :
  W.WalkOS q loose XP YP r d [] (fun f vs=>PySem.call f vs):=by
 intro w s_0 s₁ mg mb G Y fa o pm cd doc dV kV ho hd hcd hD hmg hg args vals as hpre hlay hrd hwl hlo
 obtain ⟨a,e1,e2⟩:=W.os_pre_some hpre
 obtain ⟨e3,hwi⟩:=Codec.encAll_of_decAll r.args args a e1
 subst e3
 have KX:=hY w _ Y
 obtain ⟨cm,Pt,fd,hC,hPn,⟨oc,od,sl,hlk,hcode⟩,hb,hF⟩:=F w mg fa _ Y KX G.T.g hmg
 have hPh:s₁.heap.get? Pt=some (W.tabObj #[]):=by
  obtain ⟨a',o',fd',c',P',h1,h2,h3,h4,h5,h6⟩:=G.T.tab d (List.mem_of_find?_eq_some hrec)
  rw [hmg] at h1
  cases h1
  have e4:=KX _ _ hlk
  rw [h2] at e4
  cases e4
  cases h3
  rw [hcode] at h4
  cases h4
  obtain ⟨⟨o2,vs2,g1,g2,g3,g4⟩,g5⟩:=h6
  obtain ⟨o3,vs3,_,_,_,_,_,_,_,k1,k2,k3,k4,_⟩:=bm4 hC KX
  rw [g1] at k1
  cases k1
  rw [g3] at k3
  cases k3
  rw [g4] at k4
  cases k4
  exact g5
 refine W.enter_call (codeAny_mono (aL4 (R:=[]) (cl:=classAt s_0.heap) (d0:=r.ret.enc (Codec.app r.args r.f a)) KX G.T.g G.T.b G.T.builtins G.T.nolimit G.T.nodigits (G.T.seer himp) G.T.bmain hg hwl (aw6 _ _) (ar9 hlay) hr hC hPn hPh hF hb (by rw [as8];exact hlen)
  (fun H xs hP hS=>hsp Pt _ H xs a hP hwi e2 hS) fun H e s'=>hCX w H s₁ e s') fun r' s' hq=>?_)
 obtain ⟨u,as',rfl,h1,h2,h3,h4⟩:=hq
 exact ⟨.inl ⟨u,_,as',rfl,fun _=>rfl,h1,(OpenSpec.post_iff hwell hwi _ _).mpr rfl,fun z=>Bool.noConfusion (show false=true from z)⟩,h2,h3,h4⟩
end L2
set_option maxHeartbeats 1000000
namespace L2
open PySem PySem.Spec PyProof.Rows
def czO (ci:Addr)(o:Obj):HO:=.frz o (.ext fun h=>h.get? ci=some o)
theorem bL6 {P:Program}{w:World}{H:Hp}{h:Heap}{ci:Addr}{o:Obj}(e:h.get? ci=some o):r9 P w H h ci (czO ci o):=⟨e,e,⟨o,e⟩,fun h1 h2 q k=>k _ q⟩
section
variable {P:Program}{w:World}{fs:List Addr}{H H0 H1 H2:Hp}{h h':Heap}{ci:Addr}{o:Obj}
theorem Un.addC (un:Un fs [] (F0 H ci) H2 h h')(hc:H ci=some (czO ci o))(ho:h.get? ci=some o)(hfs:ci∉fs):H2 ci=none/\h'.get? ci=some o/\Un fs [] H (upd H2 ci (czO ci o)) h h':=by
 have h2:H2 ci=none:=un.free ci o ho X5 (by simp)
 have hk:h'.get? ci=some o:=un.keep ci o ho X5 hfs (by simp)
 have ne:∀ b,H b=none->b≠ci:=fun b n z=>by rw [z,hc] at n;cases n
 have o1:∀ b,H b=none->F0 H ci b=none:=fun b n=>by rw [m8 (ne b n)];exact n
 have nt:∀ b u,H b=some u->u≠czO ci o->b≠ci:=fun b u e d z=>by rw [z,hc] at e;exact d (Option.some.inj e).symm
 refine ⟨h2,hk,fun b ob e n hb hx=>un.keep b ob e (o1 b n) hb hx,fun b ob e n hb hx=>un.slot b ob e (o1 b n) hb hx,fun b ob e n hx=>?_,fun b ob e hx=>un.there b ob e hx,fun b xs e=>?_,fun b ob u e=>?_,fun b ps e=>?_⟩
 ·rw [d6 (ne b n)];exact un.free b ob e (o1 b n) hx
 ·have n:=nt b _ e (fun z=>by cases z)
  rw [d6 n];exact un.tups b xs (by rw [m8 n];exact e)
 ·by_cases n:b=ci
  ·subst n;rw [hc] at e;cases e;exact c7
  ·rw [d6 n];exact un.frzs b ob u (by rw [m8 n];exact e)
 ·have n:=nt b _ e (fun z=>by cases z)
  rw [d6 n];exact un.tbls b ps (by rw [m8 n];exact e)
theorem HOk.addC (hok:HOk P w H2 h)(n:H2 ci=none)(e:h.get? ci=some o):HOk P w (upd H2 ci (czO ci o)) h:=fun b u q=>by
 by_cases hb:b=ci
 ·subst hb;rw [c7] at q;cases q;exact bL6 e
 ·rw [d6 hb] at q
  have up:∀ d v,H2 d=some v->upd H2 ci (czO ci o) d=some v:=fun d v z=>by rw [d6 (i0 z n)];exact z
  exact (hok b u q).stay (fun _ _ _ z=>z) (fun d z=>up d _ z) fun d xs z=>up d _ z
theorem HOk.offC (hok:HOk P w H h)(hc:H ci=some (czO ci o)):HOk P w (F0 H ci) h:=fun b u q=>by
 have hb:b≠ci:=fun z=>by rw [z,X5] at q;cases q
 rw [m8 hb] at q
 refine (hok b u q).stay (fun _ _ _ z=>z) (fun d z=>?_) fun d xs z=>?_
 ·rw [m8 (fun e=>by rw [e,hc] at z;cases z)];exact z
 ·rw [m8 (fun e=>by rw [e,hc] at z;cases z)];exact z
theorem Fly.addC {h0:Heap}{x:Addr}{cls:Value}{od:Option Addr}(f:Fly h0 H2 h x cls od)(e:h0.get? ci=some o):Fly h0 (upd H2 ci (czO ci o)) h x cls od:=by
 have ne:∀ b,h0.get? b=none->b≠ci:=fun b z q=>by rw [q,e] at z;cases z
 exact ⟨by rw [d6 (ne x f.new)];exact f.free,f.new,let ⟨oe,vs,a,b,c,d,t⟩:=f.obj;⟨oe,vs,a,b,c,d,t.imp id fun ⟨T,oT,ts,q1,q2,q3,q4,q5,q6,q7⟩=>⟨T,oT,ts,q1,q2,q3,q4,q5,by rw [d6 (ne T q7)];exact q6,q7⟩⟩⟩
theorem Un.offC (un:Un fs [] (upd H1 ci (czO ci o)) H2 h h')(hok:HOk P w H2 h')(n:H1 ci=none)(ho:h.get? ci=some o):H2 ci=some (czO ci o)/\Un fs [] H1 (F0 H2 ci) h h':=by
 have h2:H2 ci=some (czO ci o):=un.frzs ci _ _ c7
 have hk:h'.get? ci=some o:=(hok ci _ h2).1
 have ne:∀ b u,H1 b=some u->b≠ci:=fun b u e=>i0 e n
 have up:∀ b,b≠ci->H1 b=none->upd H1 ci (czO ci o) b=none:=fun b hb z=>by rw [d6 hb];exact z
 refine ⟨h2,fun b ob e z hb hx=>?_,fun b ob e z hb hx=>?_,fun b ob e z hx=>?_,fun b ob e hx=>un.there b ob e hx,fun b xs e=>?_,fun b ob u e=>?_,fun b ps e=>?_⟩
 ·by_cases q:b=ci
  ·subst q;rw [ho] at e;cases e;exact hk
  ·exact un.keep b ob e (up b q z) hb hx
 ·by_cases q:b=ci
  ·subst q;rw [ho] at e;cases e;exact ⟨_,hk⟩
  ·exact un.slot b ob e (up b q z) hb hx
 ·by_cases q:b=ci
  ·subst q;exact X5
  ·rw [m8 q];exact un.free b ob e (up b q z) hx
 ·rw [m8 (ne b _ e)];exact un.tups b xs (by rw [d6 (ne b _ e)];exact e)
 ·rw [m8 (ne b _ e)];exact un.frzs b ob u (by rw [d6 (ne b _ e)];exact e)
 ·rw [m8 (ne b _ e)];exact un.tbls b ps (by rw [d6 (ne b _ e)];exact e)
end
section
variable {X:Cx}{k i:Nat}{x y:Str}{ps:List Str}{sp:Sp}{E:XK}{p pos:Pos}{e:Expr}{es:List Expr}{t:TA}{ci:Addr}
def bC7 (sp:Sp)(ci:Addr)(i:Nat)(E:XK)(t:TA):TE:=fun σ H Q=>t σ H fun vs H1=>∃ vi,σ[i]?=some (some vi)/\∀ (o:Obj) (u:Value),o.data=.cell (some u)->t9 vi u->H1 ci=none->sp vs (upd H1 ci (czO ci o)) (fun v H2=>H2 ci=some (czO ci o)->Q v (F0 H2 ci)) (fun cls od H2=>H2 ci=some (czO ci o)->E cls od (F0 H2 ci))
theorem bs5 (D:Def X.prog X.w X.K X.mg X.base k x ps sp)(hr:C2 k X.A)(hx:B3 (cxX X.prog X.w) X E)(hN:X.N[i]?=some y)(hk:X.env.kindOf y=some .cell)(hci:X.env.cells.lookup y=some ci)(hfn:X.fn y=true)(ha:PA X (e::es) t)(hg:Gl X x:=by rfl)(hdb:(x == ("__debug__" : Str))=false:=by decide)
  (he:starEach (e::es) X.env=(false,eval e X.env)::starEach es X.env:=by rfl) (hpl:(backTo pos (starEach es X.env)).any (·.1)=false:=by rfl) :
  PE X (.Call (.Name x p) (e::es) [] pos) (bC7 sp ci i E t):=by
 obtain ⟨f,fd,F,hm,hkp,hb⟩:=D.ex
 intro pins s σ H Q I h
 refine wpAny_Call_Name_kw (X6 I hg hm ?_ hdb)
 refine W.callWith_K (h₀:=X.base) I.ok.mod.kin hkp (thn (ha pos pins s σ H _ I h) fun us s1 ⟨vs,H1,I1,r,q⟩=>⟨I1.kIn,?_⟩) he hpl
 obtain ⟨vi,hi,q⟩:=q
 obtain ⟨m,hn,hl⟩:=I1.loc
 obtain ⟨u,ru,lk⟩:=hl i y vi hN hi (Or.inr (Or.inl hk))
 have hcell:s1.heap.IsCell ci (some u):=by
  rcases lk with ⟨z,_⟩ | ⟨_,c,e1,e2⟩
  ·rw [hk] at z;cases z
  ·rw [hci] at e1;cases e1;exact e2
 obtain ⟨o,ho,hd⟩:=hcell
 have hf:H1 ci=none:=I1.freeC y ci hci
 have q:=q o u hd ru hf
 have e0:=I1.env0
 have hbase:X.base.get? ci=none:=by
  cases z:X.base.get? ci with
  | none=>rfl
  | some b =>
   have:=(I1.bs ci b z).1
   have h1:=I1.ok.bs ci b z
   have h2:=Heap.lt_size h1.1
   rcases Nat.lt_or_ge ci X.s_0.heap.objs.size with g | g
   ·exact absurd (I1.ok.cab y ci hfn hci) (Nat.not_le.mpr g)
   ·exact absurd h2 (Nat.not_lt.mpr g)
 have hfr:ci∉frs X.stack:=fun z=>by
  have:=I1.stkSub ci z
  rcases List.mem_cons.mp this with g | g
  ·exact I1.cne y ci hci g
  ·obtain ⟨_,ob,hob,hnf⟩:=I1.ok.funs.mem g
   have g2:=Heap.lt_size hob
   exact absurd (I1.ok.cab y ci hfn hci) (Nat.not_le.mpr g2)
 have e1:at9 X.prog X.w X.K X.mg X.base X.A X.stack s1 (upd H1 ci (czO ci o)):=⟨e0.frames,e0.mod,fun b ob z=>⟨(e0.bs b ob z).1,by rw [d6 (fun g=>by rw [g,hbase] at z;cases z)];exact (e0.bs b ob z).2⟩,e0.bsz,e0.funs,fun b hb=>by
   have nb:b≠ci:=fun g=>hfr (by rw [<-g];exact hb)
   rw [d6 nb];exact e0.frf b hb,e0.hok.addC hf ho,e0.bare⟩
 have hlu:(us++[]).length=ps.length:=by rw [List.append_nil,<-r.length];exact F.len _ _ _ _ q
 have bb:=hb s1 us I1.kIn hlu
 rw [List.append_nil] at bb
 refine wpAny_call (codeAny_mono (F.run X.A X.stack s1 _ ⟨us,[]⟩ us vs _ _ hr e1 bb r q) fun r' s' hq=>?_)
 cases r' with
 | error ev =>
  obtain ⟨x',cls,od,H2,e2,os,bare,un,hok,fl,hE⟩:=hq
  obtain ⟨h2,un'⟩:=un.offC hok hf ho
  refine hx pins σ H1 s1 ev s' I1 ⟨x',cls,od,F0 H2 ci,e2,os,bare,un',hok.offC h2,⟨?_,fl.new,?_⟩,hE h2⟩
  ·have nx:x'≠ci:=fun z=>by have:=fl.new;rw [z,ho] at this;cases this
   rw [m8 nx];exact fl.free
  ·obtain ⟨oe,ws,a,b,c,d,tb⟩:=fl.obj
   refine ⟨oe,ws,a,b,c,d,tb.imp id fun ⟨T,oT,ts,q1,q2,q3,q4,q5,q6,q7⟩=>⟨T,oT,ts,q1,q2,q3,q4,q5,?_,q7⟩⟩
   have nT:T≠ci:=fun z=>by rw [z,ho] at q7;cases q7
   rw [m8 nT];exact q6
 | ok fl =>
  cases fl with
  | next=>exact False.elim hq
  | brk=>exact False.elim hq
  | cont=>exact False.elim hq
  | ret u2 =>
   obtain ⟨v,H2,os,bare,un,hok,rv,q2⟩:=hq
   obtain ⟨h2,un'⟩:=un.offC hok hf ho
   exact I1.after ⟨v,F0 H2 ci,os,bare,un',hok.offC h2,rv,q2 h2⟩
end
structure at8 (N ps:List Str)(x:Str)(sc:Scope):Prop where
 kind:sc.kind=.function
 co:sc.isCoroutine=false
 gen:sc.isGenerator=false
 nd:N.Nodup
 pre:N=ps++[x]
 par:∀ y∈ps,sc.names.lookup y=some .local
 fr:sc.names.lookup x=some .free
 nocell:∀ z∈sc.names,z.2≠.cell
 one:∀ y,sc.names.lookup y=some .free->y=x
def cxL (P:Program)(w:World)(K:W.Frag)(mg:Str->Option Value)(base:Heap)(N:List Str)(qual:Str)(scope:Scope)(f:Addr)(cd:Value)(cl:List (Str×Addr))(A:Around)(outer:List Env)(s:Shared)(H:Hp)(E:XK):Cx where
 prog:=P
 w:=w
 K:=K
 mg:=mg
 base:=base
 A:=A.deeper (W.envX qual scope s.heap.objs.size f cd cl)
 N:=N
 s_0:=s
 H_0:=H
 env:=W.envX qual scope s.heap.objs.size f cd cl
 outer:=outer
 stack:=W.envX qual scope s.heap.objs.size f cd cl::outer
 ex:=[]
 calm:=true
 fn:=fun _=>false
 pn:=[]
 xe:=fun e s'=>wpAny (model P w) (A.deeper (W.envX qual scope s.heap.objs.size f cd cl)) (leaving (W.envX qual scope s.heap.objs.size f cd cl) e) (fun _ s''=>cxX P w outer H s E e s'') (fun e' s''=>cxX P w outer H s E e' s'') s'
theorem bl0 {l:List (Str×Value)}{y:Str}{u:Value}:(l.map (·.1)).Nodup->(y,u)∈l->l.lookup y=some u:=by
 induction l with
 | nil=>intro _ h;cases h
 | cons p r ih =>
  intro nd h
  obtain ⟨z,w⟩:=p
  rw [List.map_cons,List.nodup_cons] at nd
  rcases List.mem_cons.mp h with e | e
  ·cases e
   rw [List.lookup_cons,beq_self_eq_true]
  ·have ne:¬ y=z:=fun q=>nd.1 (by rw [<-q];exact List.mem_map.mpr ⟨(y,u),e,rfl⟩)
   rw [List.lookup_cons,show (y == z)=false from by simpa using ne]
   exact ih nd.2 e
theorem ak7:∀ (ps:List Str) (us:List Value),((ps.zip us).map (·.1)).Sublist ps
 | [],_=>List.Sublist.slnil
 | _::_,[]=>List.nil_sublist _
 | p::ps,_::us=>(ak7 ps us).cons₂ p
theorem bh3 {ps:List Str}{us:List Value}{i:Nat}{y:Str}{u:Value}(nd:ps.Nodup)(hp:ps[i]?=some y)(hu:us[i]?=some u):(ps.zip us).reverse.lookup y=some u:=by
 refine bl0 ?_ ?_
 ·rw [List.map_reverse]
  have nd2:((ps.zip us).map (·.1)).Nodup:=by
   exact nd.sublist (ak7 ps us)
  exact List.pairwise_reverse.mpr (List.Pairwise.imp (fun h=>Ne.symm h) nd2)
 ·rw [List.mem_reverse]
  refine List.mem_of_getElem? (i:=i) ?_
  rw [List.getElem?_zip_eq_some]
  exact ⟨hp,hu⟩
section
variable {P:Program}{w:World}{K:W.Frag}{mg:Str->Option Value}{base:Heap}{N ps:List Str}{qual x:Str}{scope:Scope}{f:Addr}{cd:Value}{A:Around}{outer:List Env}{s:Shared}{H:Hp}{E:XK}{us:List Value}{vs:List V}{ci:Addr}
theorem aO0 {h1:Heap}{tk:Nat}{vi:V}{u:Value}(S:at8 N ps x scope)(hd:A.handled=none)(e0:at9 P w K mg base A outer s H)(hl:vs.length=ps.length)(r:n9 vs us)(hc:H ci=none)(hcell:s.heap.IsCell ci (some u))(ru:t9 vi u)
  (hns:h1.Ns s.heap.objs.size (fun y=>(ps.zip us).reverse.lookup y)) (hsb:Heap.SameBut s.heap.objs.size (s.heap.push { cls:=.type "frame",data:=.dict #[] }) h1) :
  Inv (cxL P w K mg base N qual scope f cd [(x,ci)] A outer s H E) [] (vs.map some++[some vi]) H { s with heap:=h1,toks:=tk }:=by
 have hk:∀ b o,s.heap.get? b=some o->h1.get? b=some o:=fun b o e=>hsb.extBut b o (Nat.ne_of_lt (Heap.lt_size e)) (Heap.get?_push_of_some _ e)
 have noA:∀ b:Addr,b∉(cxL P w K mg base N qual scope f cd [(x,ci)] A outer s H E).ex:=fun b z=>absurd (show b∈([]:List Addr) from z) (by simp)
 have one:∀ y c,(([(x,ci)]:List (Str×Addr))).lookup y=some c->y=x/\c=ci:=fun y c h=>by
  rw [List.lookup_cons] at h
  split at h
  ·rename_i q;exact ⟨by simpa using q,(Option.some.inj h).symm⟩
  ·cases h
 have atx:(([(x,ci)]:List (Str×Addr))).lookup x=some ci:=by rw [List.lookup_cons,beq_self_eq_true]
 have ndP:ps.Nodup:=by have:=S.nd;rw [S.pre] at this;exact this.sublist (List.sublist_append_left _ _)
 refine ⟨⟨e0.mod,S.kind,rfl,rfl,Nat.le_refl _,fun y z c h1 h2=>(one y c h1).1.trans (one z c h2).1.symm,fun y hy=>?_,fun y c z _=>(by cases z),fun _=>hd,Around.frames_deeper e0.frames,.inr ⟨rfl,rfl⟩,fun b z=>absurd z (noA b),e0.bs,e0.bsz,fun b _ _=>noA b,fun b z=>absurd z (noA b),e0.funs,e0.frf⟩,
  rfl,e0.bare,Un.kept hk,⟨_,hns,fun i y v h1 h2 h3=>?_⟩,fun y c h=>?_,e0.hok.fresh (Nat.le_refl _),fun y c h=>?_,fun p hp=>absurd (show p∈([]:List (Addr×Obj)) from hp) (by simp),e0.hok.kept hk,?_⟩
 ·have hy:scope.names.lookup y=some .cell\/scope.names.lookup y=some .free:=hy
  rcases hy with hy | hy
  ·exact absurd rfl (S.nocell _ (PySem.mem_of_lookup hy))
  ·rw [S.one y hy];exact ⟨ci,atx⟩
 ·have h1:N[i]?=some y:=h1
  rw [S.pre] at h1
  by_cases hi:i < ps.length
  ·rw [List.getElem?_append_left hi] at h1
   rw [List.getElem?_append_left (by rw [List.length_map,hl];exact hi),List.getElem?_map] at h2
   cases e:vs[i]? with
   | none=>rw [e] at h2;cases h2
   | some a =>
    rw [e] at h2;cases h2
    obtain ⟨u',hu,rv⟩:=r.get e
    exact ⟨u',rv,.inl ⟨S.par y (List.mem_of_getElem? h1),bh3 ndP h1 hu⟩⟩
  ·rw [List.getElem?_append_right (by omega)] at h1
   rw [List.getElem?_append_right (by rw [List.length_map,hl];omega),List.length_map,hl] at h2
   have hz:i - ps.length=0:=by
    cases q:i - ps.length with
    | zero=>rfl
    | succ n=>rw [q] at h1;cases h1
   rw [hz] at h1 h2
   cases h1;cases h2
   exact ⟨u,ru,.inr ⟨.inr S.fr,ci,atx,hcell.keeps hk⟩⟩
 ·obtain ⟨rfl,rfl⟩:=one y c h
  exact ⟨_,hcell.keeps hk⟩
 ·obtain ⟨rfl,rfl⟩:=one y c h
  exact hc
 ·show _=N.length
  rw [S.pre,List.length_append,List.length_append,List.length_map,hl]
  rfl
theorem bC4 {cl:List (Str×Addr)}:Thr (cxL P w K mg base N qual scope f cd cl A outer s H E) E:=fun pins σ₁ H₁ s₁ σ H s x cls od I₁ I ks fl hE=>by
 show wpAny _ _ (leaving _ _) _ _ s
 unfold leaving
 refine wpAny_bind (as6 rfl rfl rfl I₁ I ks fl fun h' I' fl' _=>⟨x,cls,od,H,rfl,I'.os,I'.bare,I'.base,I'.hok,fl'.mono ?_,hE⟩)
 exact F1 fun b o q=>I₁.base.there b o q (by intro z;exact absurd (show b∈([]:List Addr) from z) (by simp))
theorem bs7 {cl:List (Str×Addr)}:B3 (cxX P w) (cxL P w K mg base N qual scope f cd cl A outer s H E) E:=Thr.pass (X:=cxL P w K mg base N qual scope f cd cl A outer s H E) bC4
end
theorem bo1 {P:Program}{w:World}{K:W.Frag}{mg:Str->Option Value}{base:Heap}{k:Nat}{f c ci:Addr}{name qual x:Str}{params:Arguments}{body:Expr}{scope:Scope}{pm ctv u:Value}{N ps:List Str}{sp:Sp}{o:Obj}{vi:V}
  (S:at8 N ps x scope) (hcd:o.data=.cell (some u)) (ru:t9 vi u) (len:∀ vs H Q E,sp vs H Q E->vs.length=ps.length)
  (hb:∀ us:List Value,us.length=ps.length->bindArgs (W.kla_fn name qual params body scope [(x,ci)] pm (.ref c) ctv) ⟨us,[]⟩=pure (ps.zip us))
  (hbody:∀ (A:Around) (outer:List Env) (s:Shared) (H:Hp) (vs:List V) (Q:VK) (E:XK),C2 k (A.deeper (W.envX qual scope s.heap.objs.size f (.ref c) [(x,ci)]))->H ci=some (czO ci o)->sp vs H Q E ->
   ∃ t,PE (cxL P w K mg base N qual scope f (.ref c) [(x,ci)] A outer s (F0 H ci) (fun cls od H2=>H2 ci=none->E cls od (upd H2 ci (czO ci o)))) body t/\t (vs.map some++[some vi]) (F0 H ci) (fun v H2=>H2 ci=none->Q v (upd H2 ci (czO ci o)))) :
  Cal P w K mg base (k+1) f (fun H=>H f=some (fnO f (W.kla_obj name qual params body scope [(x,ci)] pm c ctv))/\H c=some (cdO c qual)/\H ci=some (czO ci o)) sp where
 fn:=fun h H X hok hΦ=>by
  have e:h.get? f=some (W.kla_obj name qual params body scope [(x,ci)] pm c ctv):=(hok f _ hΦ.1).1
  exact ⟨.frame,.inl rfl,(W.Looks.ld (part:=none) e).andThen .now⟩
 run:=fun A outer s H us vs Q E hr e0 hΦ r hsp=>by
  obtain ⟨hf,hc,hz⟩:=hΦ
  have hl:=len _ _ _ _ hsp
  have hlu:us.length=ps.length:=by rw [<-r.length];exact hl
  have ho:s.heap.get? f=some (W.kla_obj name qual params body scope [(x,ci)] pm c ctv):=(e0.hok f _ hf).1
  have hrec:s.heap.CodeRec (.ref c) qual:=(e0.hok c _ hc).1
  have hoc:s.heap.get? ci=some o:=(e0.hok ci _ hz).1
  have lim:s.heap.NoLimit:=e0.mod.nolimit.keeps fun b o e=>(e0.bs b o e).1
  have hfs:ci∉frs outer:=fun z=>by have:=e0.frf ci z;rw [hz] at this;cases this
  have e1:at9 P w K mg base A outer s (F0 H ci):=⟨e0.frames,e0.mod,fun b ob z=>⟨(e0.bs b ob z).1,by
    have n:=(e0.bs b ob z).2
    rw [m8 (fun g=>by rw [g,hz] at n;cases n)];exact n⟩,e0.bsz,e0.funs,fun b hb=>by
    have n:=e0.frf b hb
    rw [m8 (fun g=>by rw [g,hz] at n;cases n)];exact n,e0.hok.offC hz,e0.bare⟩
  refine W.kla_callFunE hr.depth ho rfl S.co S.gen rfl hrec ?_
  rw [hb us hlu]
  refine wpAny_pure ?_
  refine wpAny_newFunctionEnv S.nocell (fun y hy=>S.par y.1 (List.of_mem_zip (show (y.1,y.2)∈_ from hy)).1) (fun h1 hns hsb=>⟨lim.fresh _ hsb,?_⟩) S.kind
  show codeAny _ _ (.expr body (W.envX qual scope s.heap.objs.size f (.ref c) [(x,ci)])) _ _
  obtain ⟨t,ht,hq⟩:=hbody A outer s H vs Q E (hr.deeper _) hz hsp
  have I:=aO0 (qual:=qual) (f:=f) (cd:=.ref c) (E:=fun cls od H2=>H2 ci=none->E cls od (upd H2 ci (czO ci o))) (tk:=s.toks+(ps.zip us).length) S hr.hd e1 hl r X5 ⟨o,hoc,hcd⟩ ru hns hsb
  refine W.kla_codeExpr (wpAny_mono (ht [] _ _ _ _ I hq) (fun u2 s' hs=>?_) fun ev s' hs=>?_)
  ·obtain ⟨v,H2,J,rv,q⟩:=hs
   obtain ⟨n,hk,un⟩:=Un.addC (show Un (frs outer) [] (F0 H ci) H2 s.heap s'.heap from J.base) hz hoc hfs
   exact ⟨v,_,J.os,J.bare,un,J.hok.addC n hk,rv,q n⟩
  ·have lift:∀ ev' s'',cxX P w outer (F0 H ci) s (fun cls od H2=>H2 ci=none->E cls od (upd H2 ci (czO ci o))) ev' s''->cxX P w outer H s E ev' s'':=fun ev' s'' ⟨x',cls,od,H2,e2,os,bare,un,hok,fl,hE⟩=>by
    obtain ⟨n,hk,un'⟩:=un.addC hz hoc hfs
    exact ⟨x',cls,od,_,e2,os,bare,un',hok.addC n hk,fl.addC hoc,hE n⟩
   exact wpAny_mono hs (fun _ s'' z=>lift _ s'' z) fun _ s'' z=>lift _ s'' z
section
variable {K:W.Frag}{G H G' H':Hp}{ci a:Addr}{o:Obj}{xs:List V}
theorem bJ1 (hg:∀ u,G ci=some u->u=czO ci o)(h:SqL K G a xs):SqL K (F0 G ci) a xs:=by
 rcases h with (h | ⟨o',h⟩) | h
 ·exact .inl (.inl (by rw [m8 (fun z=>by rw [z] at h;cases hg _ h)];exact h))
 ·exact .inl (.inr ⟨o',by rw [m8 (fun z=>by rw [z] at h;cases hg _ h)];exact h⟩)
 ·exact .inr h
theorem bJ0 (hg:∀ u,G ci=some u->u=czO ci o)(h:SqT K G a xs):SqT K (F0 G ci) a xs:=by
 rcases h with (h | ⟨o',h⟩) | h
 ·exact .inl (.inl (by rw [m8 (fun z=>by rw [z] at h;cases hg _ h)];exact h))
 ·exact .inl (.inr ⟨o',by rw [m8 (fun z=>by rw [z] at h;cases hg _ h)];exact h⟩)
 ·exact .inr h
theorem Q7 (hg:∀ u,G ci=some u->u=czO ci o){v:V}{q:Rat}(h:Fr K G v q):Fr K (F0 G ci) v q:=by
 obtain ⟨p,e,h⟩:=h
 exact ⟨p,e,bJ0 hg h⟩
theorem bu9 (hg:∀ u,G ci=some u->u=czO ci o){v:V}{qs:List Rat}(h:Ls K (Fr K) G v qs):Ls K (Fr K) (F0 G ci) v qs:=by
 obtain ⟨p,vs,e,h,hp⟩:=h
 exact ⟨p,vs,e,bJ1 hg h,Paired.map' (fun _ _ z=>Q7 hg z) hp⟩
def aX3 (G G':Hp)(ci:Addr):Hp:=fun b=>if b=ci then G ci else G' b
theorem bh6 (sm:j6 G H)(hz:H ci=some (czO ci o))(e:Ext [] (F0 G ci) (F0 H ci) G' H')(n:H' ci=none):j6 G' (aX3 G G' ci)/\Ext [] G H (aX3 G G' ci) (upd H' ci (czO ci o)):=by
 have gn:G' ci=none:=e.sub.free n
 have pn:∀ b,b≠ci->aX3 G G' ci b=G' b:=fun b h=>by unfold aX3;rw [if_neg h]
 have pc:aX3 G G' ci ci=G ci:=by unfold aX3;rw [if_pos rfl]
 refine ⟨fun b u q=>?_,⟨sm,fun b u q=>?_,fun b u q=>?_,fun b u q _=>?_,fun b u q=>?_,fun b u q=>?_⟩⟩
 ·rw [pn b (fun z=>by rw [z,gn] at q;cases q)];exact q
 ·by_cases hb:b=ci
  ·subst hb
   rw [pc] at q
   have:=sm _ _ q
   rw [hz] at this
   rw [c7];exact this
  ·rw [pn b hb] at q
   rw [d6 hb];exact e.sub _ _ q
 ·by_cases hb:b=ci
  ·subst hb;rw [pc];exact q
  ·rw [pn b hb];exact e.grow _ _ (by rw [m8 hb];exact q)
 ·by_cases hb:b=ci
  ·subst hb;rw [c7];rw [hz] at q;exact q
  ·rw [d6 hb];exact e.keep b u (by rw [m8 hb];exact q) (by simp)
 ·by_cases hb:b=ci
  ·subst hb;exact ⟨_,c7⟩
  ·obtain ⟨o',z⟩:=e.there b u (by rw [m8 hb];exact q)
   exact ⟨o',by rw [d6 hb];exact z⟩
 ·by_cases hb:b=ci
  ·subst hb;rw [pc] at q;exact .inl q
  ·rw [pn b hb] at q
   rcases e.fresh b u q with z | z
   ·rw [m8 hb] at z;exact .inl z
   ·rw [m8 hb] at z;exact .inr z
end
end L2
namespace Th
open PySem PySem.Spec PySem.W PyProof.Rows L2
theorem bx8 {K:W.Frag}{H:Hp}{x:V}{l:List Int}(h:Dw K H x (.list (l.map WData.int))):∃ p,x=.ref p/\SqL K H p (l.map V.int):=by
 cases h with
 | lst hs hd =>
  rw [aT1 l _ hd] at hs
  exact ⟨_,rfl,hs⟩
theorem av5:∀ {l:List Int},(∀ z∈l,0<=z/\z<=255)->h8 (LensDNeutral.text l)=l.map V.int
 | [],_=>rfl
 | z::l,h=>by
  have h1:=h z List.mem_cons_self
  have:=av5 fun x hx=>h x (List.mem_cons_of_mem z hx)
  show V.int (((UInt8.ofNat z.toNat).toNat:Nat):Int)::h8 (LensDNeutral.text l)=V.int z::l.map V.int
  rw [this]
  have e:(UInt8.ofNat z.toNat).toNat=z.toNat:=by
   show z.toNat % 256=z.toNat
   exact Nat.mod_eq_of_lt (by omega)
  rw [e,Int.toNat_of_nonneg h1.1]
theorem ab2 {K:W.Frag}{H:Hp}{Pt:Addr}{x:V}{l:List Int}(hP:H Pt=some (.tbl #[]))(hl:∀ z∈l,0<=z/\z<=255)(h:Dw K H x (.list (l.map WData.int))):Bs K (F0 H Pt) x (LensDNeutral.text l):=by
 obtain ⟨p,e,h⟩:=bx8 h
 exact ⟨p,e,by rw [av5 hl];exact bj7 hP h⟩
theorem aa9 {m:Nat}{l:List Int}(h:(Codec.list 0 m (Codec.int (Int.ofNat 0) (Int.ofNat 255))).within l=true):∀ z∈l,0<=z/\z<=255:=by
 intro z hz
 have h:Codec.inList 0 m (Codec.inInt (Int.ofNat 0) (Int.ofNat 255)) l=true:=h
 simp only [Codec.inList,Codec.inInt,Bool.and_eq_true,List.all_eq_true,decide_eq_true_eq] at h
 have:=h.2 z hz
 exact ⟨by simpa using this.1,by simpa using this.2⟩
end Th
namespace Th
open PySem PySem.Spec PyProof.Rows L2
def prog:Program:=PySem.Challenge.pw_thirdsums_s02_part
def top (i:Nat):Stmt:=PySem.Challenge.pw_thirdsums_s02_part.main.body.getD i (.Pass ⟨0,0,0,0⟩)
abbrev K6:Stmt:=top 3
abbrev ae0:Stmt:=top 4
abbrev ad8:Stmt:=top 5
abbrev aM3:Stmt:=top 6
abbrev aB5:Stmt:=top 7
abbrev aB4:Stmt:=top 8
abbrev aM4:Stmt:=top 9
abbrev D3:Stmt:=J4 (top 12) 0
abbrev ad9:Stmt:=top 22
abbrev X0:Stmt:=top 23
abbrev R5:Stmt:=top 24
abbrev M3:Stmt:=top 25
abbrev K4:Stmt:=top 26
abbrev S1:Stmt:=top 27
abbrev O1:Stmt:=top 29
abbrev K5:Stmt:=top 30
abbrev M0:Stmt:=top 31
abbrev ad7:Stmt:=top 32
abbrev aq3:Stmt:=top 33
abbrev R8:Stmt:=top 34
abbrev aj7:Stmt:=top 35
abbrev L3:Stmt:=top 36
abbrev ae1:Stmt:=top 37
abbrev R7:Stmt:=top 38
abbrev O3:Stmt:=J4 (top 40) 0
abbrev aq2:Stmt:=top 41
abbrev aj6:Stmt:=top 42
abbrev M1:Stmt:=top 43
abbrev R6:Stmt:=top 44
abbrev S2:Stmt:=top 52
abbrev O2:Stmt:=top 53
abbrev X1:Stmt:=top 54
abbrev J0:Stmt:=top 55
abbrev W8:Stmt:=top 56
abbrev S3:Stmt:=top 57
abbrev O0:Stmt:=top 58
abbrev W0:Stmt:=top 59
abbrev O5:Stmt:=J4 (top 68) 0
abbrev S4:Stmt:=J4 (top 69) 0
abbrev S8:Stmt:=J4 (top 70) 0
abbrev S7:Stmt:=J4 (top 70) 1
abbrev O4:Stmt:=J4 (top 70) 2
abbrev M4:Stmt:=J4 (top 70) 3
abbrev M5:Stmt:=J4 (top 70) 4
abbrev S6:Stmt:=J4 (top 70) 5
abbrev S5:Stmt:=J4 (top 70) 6
abbrev N7:Stmt:=top 71
abbrev S0:Stmt:=top 72
abbrev W1:Stmt:=top 73
abbrev B9:Stmt:=top 74
abbrev W2:Stmt:=top 75
abbrev M2:Stmt:=top 76
abbrev F7:Stmt:=top 77
abbrev W3:Stmt:=top 78
abbrev N8:Stmt:=top 79
abbrev W4:Stmt:=top 80
abbrev W5:Stmt:=top 81
abbrev W6:Stmt:=top 82
abbrev N9:Stmt:=top 83
abbrev aa0:Stmt:=top 84
abbrev R9:Stmt:=top 85
abbrev W9:Stmt:=top 88
abbrev aB3:Stmt:=top 89
abbrev N6:Stmt:=top 93
abbrev X2:Stmt:=top 94
abbrev W7:Stmt:=top 95
theorem ab9:prog.given.tree=none:=rfl
end Th
set_option maxHeartbeats 2000000
namespace Th
open PySem PySem.Spec PyProof.Rows L2
theorem bK3 {i j:Int}{A B:Prop}(h1:i≠j->A)(h2:i=j->B):if (!decide (V.int i=V.int j))=true then A else B:=by
 by_cases h:i=j
 ·rw [if_neg (by simp [h])];exact h2 h
 ·rw [if_pos (by simp [h])];exact h1 h
theorem K9 {i j:Int}{A B:Prop}(h1:i=j->A)(h2:i≠j->B):if (decide (V.int i=V.int j))=true then A else B:=by
 by_cases h:i=j
 ·rw [if_pos (by simp [h])];exact h1 h
 ·rw [if_neg (by simp [h])];exact h2 h
theorem y4 {c:Prop}[Decidable c]{A B:Prop}(h1:c->A)(h2:¬ c->B):if (decide c)=true then A else B:=by
 by_cases h:c
 ·rw [if_pos (by simp [h])];exact h1 h
 ·rw [if_neg (by simp [h])];exact h2 h
theorem K0 {b:Bool}{A B:Prop}(h1:b=true->A)(h2:b=false->B):if b=true then A else B:=by
 cases b with
 | true=>rw [if_pos rfl];exact h1 rfl
 | false=>rw [if_neg (by decide)];exact h2 rfl
def av7 (i:Nat)(σ:L2.St):Nat:=match σ[i]? with
 | some (some (.int j))=>j.toNat
 | _=>0
theorem ac2 (i:Int):(if i < 0 then -i else i)=((i.natAbs:Nat):Int):=by
 by_cases h:i < 0
 ·rw [if_pos h];omega
 ·rw [if_neg h];omega
structure Tx (K:W.Frag)(mg:Str->Option Value):Prop where
 abs_:mg "abs"=none
 len_:mg "len"=none
section
variable {w:World}{K:W.Frag}{mg:Str->Option Value}{base:Heap}
def bf9:Sp:=fun vs H Q _=>∃ a b:Nat,vs=[.int (a:Int),.int (b:Int)]/\Q (.int ((Nat.gcd a b:Nat):Int)) H
theorem aB2:g9 ["a","b","rest"] ["a","b"] (d7 K6):=⟨rfl,rfl,rfl,by decide +kernel,rfl,by decide +kernel,by decide +kernel⟩
theorem bI4 {f:Addr}{fd:FuncData}(F:Fun K "common_divisor" "common_divisor" K6 f fd):l6 prog w K mg base (cxX prog w) 1 f fd ["a","b"] bf9:=by
 refine F.okX aB2 (fun vs H Q E h=>?_) (fun cdv A outer s H vs Q E hr h=>?_)
 ·obtain ⟨a,b,rfl,_⟩:=h;rfl
 ·obtain ⟨a,b,rfl,k⟩:=h
  refine a0 _ (c6 (U3 C9 (j5 bA5 (pv 1) g7 (j8 _)) (c6 (h9 (i:=2) aB2.nd rfl (Or.inl rfl) (i6 bF8 (pv 0) (pv 1))) (c6 (h9 (i:=0) aB2.nd rfl (Or.inl rfl) (pv 1)) (d5 (h9 (i:=1) aB2.nd rfl (Or.inl rfl) (pv 2)))))) (d5 (i4 (pv 0)))) ?_
  refine T9 (fun σ H'=>H'=H/\∃ (m n:Nat) (r:Option V),σ=[some (.int (m:Int)),some (.int (n:Int)),r]/\Nat.gcd m n=Nat.gcd a b) (fun σ _=>av7 1 σ) ⟨rfl,G0 a b none ⟨rfl,rfl⟩⟩ ?_ (fun σ H Q Q' hq ⟨x,e,h1,z,e2,q⟩=>(d8 x e h1 (a0 z e2 (hq _ _ q))))
  rintro σ H' ⟨rfl,m,n,r,rfl,e⟩
  refine d8 _ rfl rfl (a0 _ rfl (bK3 (fun hn=>?_) (fun hn=>?_)))
  ·have hp:0 < n:=by omega
   refine a0 _ rfl (a0 _ rfl (i5 _ _ rfl rfl (by show (0:Int) < (n:Int);omega) (a0 _ rfl (d8 _ rfl ⟨rfl,G0 n (m % n) _ ⟨rfl,?_⟩⟩ ?_))))
   ·rw [<-e,Nat.gcd_comm m n,Nat.gcd_comm n (m % n),<-Nat.gcd_rec]
   ·show ((m:Int) % (n:Int)).toNat < ((n:Int)).toNat
    have:=Nat.mod_lt m hp
    omega
  ·have:n=0:=by omega
   subst this
   refine a0 _ rfl ?_
   rw [<-e,Nat.gcd_zero_right] at k
   exact k
def ad6 (K:W.Frag):Sp:=fun vs H Q _=>∃ (G:Hp) (a b:Int),vs=[.int a,.int b]/\b≠0/\j6 G H/\∀ v G' H',Ext [] G H G' H'->Fr K G' v ((a:Rat) / (b:Rat))->Q v H'
theorem af9:g9 ["top","bottom","common"] ["top","bottom"] (d7 ae0):=⟨rfl,rfl,rfl,by decide +kernel,rfl,by decide +kernel,by decide +kernel⟩
theorem bu7 {f:Addr}{fd:FuncData}(F:Fun K "fraction" "fraction" ae0 f fd)(T:Tx K mg)(Dg:Def prog w K mg base 1 "common_divisor" ["a","b"] bf9):l6 prog w K mg base (cxX prog w) 2 f fd ["top","bottom"] (ad6 K):=by
 refine F.okX af9 (fun vs H Q E h=>?_) (fun cdv A outer s H vs Q E hr h=>?_)
 ·obtain ⟨G,a,b,rfl,_⟩:=h;rfl
 ·obtain ⟨G,a,b,rfl,hb,sm,k⟩:=h
  have dp:=ao2 (w:=w) (K:=K) (mg:=mg) (base:=base) (N:=["top","bottom","common"]) (outer:=outer) (H0:=H) (E:=E) ab9 af9.gen af9.co hr
  refine a0 _ (c6 (h9 (i:=2) af9.nd rfl (Or.inl rfl) (d9 Dg hr d4 (b0 (w8 at6 rfl T.abs_ boot_abs (b0 (pv 0) c9)) (b0 (w8 at6 rfl T.abs_ boot_abs (b0 (pv 1) c9)) c9))))
   (c6 (q0 (j5 ar3 (pv 1) g7 (j8 _)) (d5 (h9 (i:=2) af9.nd rfl (Or.inl rfl) (al1 Z6 (pv 2)))) j3)
   (d5 (i4 (y1 (b0 (i6 (O9 dp) (pv 0) (pv 2)) (b0 (i6 (O9 dp) (pv 1) (pv 2)) c9))))))) ?_
  have e:=Ma.bn1 a b hb
  have hg:0 < Nat.gcd a.natAbs b.natAbs:=Nat.gcd_pos_of_pos_right _ (by omega)
  refine a0 _ rfl (a0 _ rfl (a0 _ rfl (a0 _ rfl (L8 a.natAbs b.natAbs (by rw [ac2,ac2];rfl) ?_))))
  refine a0 _ rfl (g6 _ _ rfl rfl (a0 _ rfl (y4 (fun hn=>?_) (fun hn=>?_))))
  ·rw [if_pos hn] at e
   refine a0 _ rfl (a0 _ rfl (a0 _ rfl (a0 _ rfl (i5 _ _ rfl rfl (by show -((Nat.gcd a.natAbs b.natAbs:Nat):Int)≠0;omega) (a0 _ rfl (a0 _ rfl (C6 _ _ rfl rfl (by show -((Nat.gcd a.natAbs b.natAbs:Nat):Int)≠0;omega) (by show 2<=sizeLine;decide) (fun p hp=>?_))))))))
   have kk:=k _ _ _ ((Ext.refl sm).lay hp (o:=.tup [.int ((a:Rat) / (b:Rat)).num,.int (((a:Rat) / (b:Rat)).den:Int)])) (a0 p rfl (.of c7))
   rw [<-e.1,<-e.2] at kk
   exact kk
  ·rw [if_neg hn] at e
   refine a0 _ rfl (a0 _ rfl (i5 _ _ rfl rfl (by show ((Nat.gcd a.natAbs b.natAbs:Nat):Int)≠0;omega) (a0 _ rfl (a0 _ rfl (C6 _ _ rfl rfl (by show ((Nat.gcd a.natAbs b.natAbs:Nat):Int)≠0;omega) (by show 2<=sizeLine;decide) (fun p hp=>?_))))))
   have kk:=k _ _ _ ((Ext.refl sm).lay hp (o:=.tup [.int ((a:Rat) / (b:Rat)).num,.int (((a:Rat) / (b:Rat)).den:Int)])) (a0 p rfl (.of c7))
   rw [<-e.1,<-e.2] at kk
   exact kk
end
end Th
set_option maxHeartbeats 2000000
namespace Th
open PySem PySem.Spec PyProof.Rows L2
def bT1 (K:W.Frag)(i:Nat)(j:Int):TE:=fun σ H Q=>∃ p xs v,σ[i]?=some (some (.ref p))/\SqT K H p xs/\atI xs j=some v/\Q v H
theorem px {X:Cx}(i:Nat){x:Str}{j:Int}{z:Nat}{p1 p2 pos:Pos}(h:PE X (.Name x p1) (J9 i)):PE X (.Subscript (.Name x p1) (.Constant (.int j) z p2) pos) (bT1 X.K i j):=by
 intro pins s σ H Q I ⟨p,xs,v,e1,e2,e3,q⟩
 exact m7 o8 h g7 (fun _ _=>rfl) pins s σ H Q I (a0 _ e1 (j0 p xs j v rfl rfl e2 e3 q))
abbrev Szb (q:Rat):Prop:=Ma.Sz 30000000 q
theorem cbN {p q:Rat}(hp:Szb p)(hq:Szb q):CB p.num q.num:=⟨hp.num.mono (by decide),hq.num.mono (by decide)⟩
theorem cbD {p q:Rat}(hp:Szb p)(hq:Szb q):CB p.den q.den:=⟨hp.den.mono (by decide),hq.den.mono (by decide)⟩
theorem bL8 {p q:Rat}(hp:Szb p)(hq:Szb q):CB p.num q.den:=⟨hp.num.mono (by decide),hq.den.mono (by decide)⟩
theorem bV4 {p q:Rat}(hp:Szb p)(hq:Szb q):CB p.den q.num:=⟨hp.den.mono (by decide),hq.num.mono (by decide)⟩
section
variable {w:World}{K:W.Frag}{mg:Str->Option Value}{base:Heap}
def sp1 (K:W.Frag)(C:Rat->Prop)(f:Rat->Rat):Sp:=fun vs H Q _=>∃ (G:Hp) (a:V) (p:Rat),vs=[a]/\j6 G H/\Fr K G a p/\C p/\∀ v G' H',Ext [] G H G' H'->Fr K G' v (f p)->Q v H'
def sp2 (K:W.Frag)(C:Rat->Rat->Prop)(f:Rat->Rat->Rat):Sp:=fun vs H Q _=>∃ (G:Hp) (a b:V) (p q:Rat),vs=[a,b]/\j6 G H/\Fr K G a p/\Fr K G b q/\C p q/\∀ v G' H',Ext [] G H G' H'->Fr K G' v (f p q)->Q v H'
def aE1 (p q:Rat):Prop:=Szb p/\Szb q
theorem bE2:g9 ["x"] ["x"] (d7 ad8):=⟨rfl,rfl,rfl,by decide +kernel,rfl,by decide +kernel,by decide +kernel⟩
theorem bI0 {f:Addr}{fd:FuncData}(F:Fun K "negative" "negative" ad8 f fd):l6 prog w K mg base (cxX prog w) 1 f fd ["x"] (sp1 K (fun _=>True) fun p=>-p):=by
 refine F.okX bE2 (fun vs H Q E h=>?_) (fun cdv A outer s H vs Q E hr h=>?_)
 ·obtain ⟨G,a,p,rfl,_⟩:=h;rfl
 ·obtain ⟨G,_,p,rfl,sm,⟨a,rfl,ha⟩,_,k⟩:=h
  refine a0 _ (d5 (i4 (y1 (b0 (al1 Z6 (px 0 (pv 0))) (b0 (px 0 (pv 0)) c9))))) ?_
  refine j4 a _ _ rfl (sm.seqT ha) rfl (a0 _ rfl (u0 a _ _ rfl (sm.seqT ha) rfl (by show 2<=sizeLine;decide) (fun l hl=>?_)))
  have kk:=k _ _ _ ((Ext.refl sm).lay hl (o:=.tup [.int (-p).num,.int ((-p).den:Int)])) (a0 l rfl (.of c7))
  rw [Rat.neg_num,Rat.neg_den] at kk
  exact kk
theorem br4:g9 ["x","y"] ["x","y"] (d7 aM3):=⟨rfl,rfl,rfl,by decide +kernel,rfl,by decide +kernel,by decide +kernel⟩
theorem bu1 {f:Addr}{fd:FuncData}(F:Fun K "plus" "plus" aM3 f fd)(Df:Def prog w K mg base 2 "fraction" ["top","bottom"] (ad6 K)):l6 prog w K mg base (cxX prog w) 3 f fd ["x","y"] (sp2 K aE1 fun p q=>p+q):=by
 refine F.okX br4 (fun vs H Q E h=>?_) (fun cdv A outer s H vs Q E hr h=>?_)
 ·obtain ⟨G,a,b,p,q,rfl,_⟩:=h;rfl
 ·obtain ⟨G,_,_,p,q,rfl,sm,⟨a,rfl,ha⟩,⟨b,rfl,hb⟩,⟨bp,bq⟩,k⟩:=h
  refine a0 _ (d5 (i4 (d9 Df hr d4 (b0 (i6 J3 (i6 i7 (px 0 (pv 0)) (px 1 (pv 1))) (i6 i7 (px 1 (pv 1)) (px 0 (pv 0)))) (b0 (i6 i7 (px 0 (pv 0)) (px 1 (pv 1))) c9))))) ?_
  refine j4 a _ _ rfl (sm.seqT ha) rfl (j4 b _ _ rfl (sm.seqT hb) rfl (i5 _ _ rfl rfl (bL8 bp bq) (j4 b _ _ rfl (sm.seqT hb) rfl (j4 a _ _ rfl (sm.seqT ha) rfl (i5 _ _ rfl rfl (bL8 bq bp) (g6 _ _ rfl rfl (j4 a _ _ rfl (sm.seqT ha) rfl (j4 b _ _ rfl (sm.seqT hb) rfl (i5 _ _ rfl rfl (cbD bp bq) (j4 G _ _ rfl (Int.mul_ne_zero (Ma.A3 p) (Ma.A3 q)) sm (fun v G' H' e h=>?_)))))))))))
  refine k v G' H' e ?_
  show L2.Fr K G' v (p+q)
  rw [Ma.bo7];exact h
theorem bg8:g9 ["x","y"] ["x","y"] (d7 aB5):=⟨rfl,rfl,rfl,by decide +kernel,rfl,by decide +kernel,by decide +kernel⟩
theorem bj5 {f:Addr}{fd:FuncData}(F:Fun K "minus" "minus" aB5 f fd)(Dn:Def prog w K mg base 1 "negative" ["x"] (sp1 K (fun _=>True) fun p=>-p))(Dp:Def prog w K mg base 3 "plus" ["x","y"] (sp2 K aE1 fun p q=>p+q)):l6 prog w K mg base (cxX prog w) 4 f fd ["x","y"] (sp2 K aE1 fun p q=>p - q):=by
 refine F.okX bg8 (fun vs H Q E h=>?_) (fun cdv A outer s H vs Q E hr h=>?_)
 ·obtain ⟨G,a,b,p,q,rfl,_⟩:=h;rfl
 ·obtain ⟨G,a,b,p,q,rfl,sm,ha,hb,⟨bp,bq⟩,k⟩:=h
  refine a0 _ (d5 (i4 (d9 Dp hr d4 (b0 (pv 0) (b0 (d9 Dn (hr.mono (by decide)) d4 (b0 (pv 1) c9)) c9))))) ?_
  refine a0 _ rfl (a0 _ rfl (u0 G _ q rfl sm hb trivial (fun v G1 H1 e1 h1=>?_)))
  refine j1 G1 _ _ p (-q) rfl e1.sub (Fr.mono _ _ _ _ e1.grow ha) h1 ⟨bp,bq.neg⟩ (fun v G2 H2 e2 h2=>?_)
  refine k v G2 H2 (e1.trans e2) ?_
  show L2.Fr K G2 v (p - q)
  rw [Rat.sub_eq_add_neg];exact h2
theorem bg3:g9 ["x","y"] ["x","y"] (d7 aB4):=⟨rfl,rfl,rfl,by decide +kernel,rfl,by decide +kernel,by decide +kernel⟩
theorem bj3 {f:Addr}{fd:FuncData}(F:Fun K "times" "times" aB4 f fd)(Df:Def prog w K mg base 2 "fraction" ["top","bottom"] (ad6 K)):l6 prog w K mg base (cxX prog w) 3 f fd ["x","y"] (sp2 K aE1 fun p q=>p*q):=by
 refine F.okX bg3 (fun vs H Q E h=>?_) (fun cdv A outer s H vs Q E hr h=>?_)
 ·obtain ⟨G,a,b,p,q,rfl,_⟩:=h;rfl
 ·obtain ⟨G,_,_,p,q,rfl,sm,⟨a,rfl,ha⟩,⟨b,rfl,hb⟩,⟨bp,bq⟩,k⟩:=h
  refine a0 _ (d5 (i4 (d9 Df hr d4 (b0 (i6 i7 (px 0 (pv 0)) (px 1 (pv 1))) (b0 (i6 i7 (px 0 (pv 0)) (px 1 (pv 1))) c9))))) ?_
  refine j4 a _ _ rfl (sm.seqT ha) rfl (j4 b _ _ rfl (sm.seqT hb) rfl (i5 _ _ rfl rfl (cbN bp bq) (j4 a _ _ rfl (sm.seqT ha) rfl (j4 b _ _ rfl (sm.seqT hb) rfl (i5 _ _ rfl rfl (cbD bp bq) (j4 G _ _ rfl (Int.mul_ne_zero (Ma.A3 p) (Ma.A3 q)) sm (fun v G' H' e h=>?_)))))))
  refine k v G' H' e ?_
  show L2.Fr K G' v (p*q)
  rw [Ma.bk4];exact h
def bp1 (p q:Rat):Prop:=Szb p/\Szb q/\q≠0
theorem br5:g9 ["x","y"] ["x","y"] (d7 aM4):=⟨rfl,rfl,rfl,by decide +kernel,rfl,by decide +kernel,by decide +kernel⟩
theorem bu3 {f:Addr}{fd:FuncData}(F:Fun K "over" "over" aM4 f fd)(Df:Def prog w K mg base 2 "fraction" ["top","bottom"] (ad6 K)):l6 prog w K mg base (cxX prog w) 3 f fd ["x","y"] (sp2 K bp1 fun p q=>p / q):=by
 refine F.okX br5 (fun vs H Q E h=>?_) (fun cdv A outer s H vs Q E hr h=>?_)
 ·obtain ⟨G,a,b,p,q,rfl,_⟩:=h;rfl
 ·obtain ⟨G,_,_,p,q,rfl,sm,⟨a,rfl,ha⟩,⟨b,rfl,hb⟩,⟨bp,bq,hq⟩,k⟩:=h
  have hn:q.num≠0:=fun z=>hq (Rat.num_eq_zero.mp z)
  refine a0 _ (d5 (i4 (d9 Df hr d4 (b0 (i6 i7 (px 0 (pv 0)) (px 1 (pv 1))) (b0 (i6 i7 (px 0 (pv 0)) (px 1 (pv 1))) c9))))) ?_
  refine j4 a _ _ rfl (sm.seqT ha) rfl (j4 b _ _ rfl (sm.seqT hb) rfl (i5 _ _ rfl rfl (bL8 bp bq) (j4 a _ _ rfl (sm.seqT ha) rfl (j4 b _ _ rfl (sm.seqT hb) rfl (i5 _ _ rfl rfl (bV4 bp bq) (j4 G _ _ rfl (Int.mul_ne_zero (Ma.A3 p) hn) sm (fun v G' H' e h=>?_)))))))
  refine k v G' H' e ?_
  show L2.Fr K G' v (p / q)
  rw [Ma.aO6 p q hq];exact h
end
end Th
set_option maxHeartbeats 2000000
namespace Th
open PySem PySem.Spec PyProof.Rows L2
theorem aD4 {K:W.Frag}{H:Hp}:∀ ns:List Int,DpAll K H (ns.map V.int) (ns.map PyData.int)
 | []=>.nil
 | n::r=>.cons (.int n) (aD4 r)
theorem aJ4:∀ (ns ms:List Int),PyData.eqvAll (ns.map PyData.int) (ms.map PyData.int)=decide (ns=ms)
 | [],[]=>rfl
 | [],_::_=>rfl
 | _::_,[]=>rfl
 | n::ns,m::ms=>by
  show (n == m && PyData.eqvAll (ns.map PyData.int) (ms.map PyData.int))=_
  rw [aJ4 ns ms]
  by_cases h:n=m
  ·subst h;simp
  ·simp [h]
def bU2 (K:W.Frag):R2:=fun x y H Q=>∃ p q,∃ ns ms:List Int,x=.ref p/\y=.ref q/\SqL K H p (ns.map V.int)/\SqL K H q (ms.map V.int)/\Q (.bl (decide (ns=ms))) H
theorem ar4 {X:Cx}(hu:X.A.units+64 < cLine):OpR X (compareOp .Eq) (bU2 X.K):=by
 intro pins s σ H x y v u Q I rx ry ⟨p,q,ns,ms,hx,hy,h1,h2,hq⟩
 subst hx hy
 refine bF9 hu pins s σ H _ _ v u Q I rx ry (C6 (.list (ns.map PyData.int)) (.list (ms.map PyData.int)) (.lst h1 (aD4 _)) (.lst h2 (aD4 _)) (W.ke_shaped_ints _) (W.ke_shaped_ints _) ?_)
 show Q (.bl (PyData.eqvAll _ _)) H
 rw [aJ4];exact hq
def y6 (b:List UInt8):List Int:=b.map fun (c:UInt8)=>(c.toNat:Int)
theorem F9 (b:List UInt8):h8 b=(y6 b).map V.int:=by
 unfold h8 y6;rw [List.map_map];rfl
theorem U9:∀ {a b:List UInt8},y6 a=y6 b->a=b
 | [],[],_=>rfl
 | [],_::_,h=>by cases h
 | _::_,[],h=>by cases h
 | x::a,y::b,h=>by
  have h1:((x.toNat:Int))=(y.toNat:Int)/\y6 a=y6 b:=by
   have:=List.cons.inj h
   exact this
  have e:x=y:=UInt8.toNat_inj.mp (by omega)
  rw [e,U9 h1.2]
theorem i3 (b:List UInt8):(h8 b).length=b.length:=by unfold h8;rw [List.length_map]
theorem X9 {b:List UInt8}{i:Nat}(h:i < b.length):(h8 b)[i]?=some (.int ((b[i]).toNat:Int)):=by
 unfold h8
 rw [List.getElem?_map,List.getElem?_eq_getElem h];rfl
theorem L5 {b:List UInt8}{i:Nat}(h:i < b.length):atI (h8 b) (i:Int)=some (.int ((b[i]).toNat:Int)):=ai2 (X9 h)
theorem ak2 (b:List UInt8)(lo hi:Nat)(h1:lo<=b.length)(h2:hi<=b.length):Q0 (h8 b) (some (lo:Int)) (some (hi:Int))=h8 ((b.drop lo).take (hi - lo)):=by
 unfold Q0
 rw [i3,HT.sIx_nat,HT.sIx_nat,Nat.min_eq_left h1,Nat.min_eq_left h2]
 unfold h8
 rw [List.map_take,List.map_drop]
theorem aO7 (b:List UInt8)(hi:Nat)(h2:hi<=b.length):Q0 (h8 b) none (some (hi:Int))=h8 (b.take hi):=by
 unfold Q0
 rw [i3,HT.sIx_none,HT.sIx_nat,Nat.min_eq_left h2]
 unfold h8
 rw [List.map_take];rfl
theorem at3 (b:List UInt8)(lo:Nat):Q0 (h8 b) (some (lo:Int)) none=h8 (b.drop lo):=by
 unfold Q0
 rw [i3,HT.sIx_none,HT.sIx_nat]
 unfold h8
 by_cases h:lo<=b.length
 ·rw [Nat.min_eq_left h,<-List.map_drop,List.take_of_length_le (by simp)]
 ·rw [Nat.min_eq_right (by omega),Nat.sub_self,List.drop_eq_nil_of_le (by omega:b.length<=lo)];simp
def Bl:Rl (List UInt8):=fun G v b=>∃ p,v=.ref p/\G p=some (.lst (h8 b))
theorem Bl.mono:bo9 Bl:=fun _ _ _ _ s ⟨p,e,h⟩=>(a0 p e (s _ _ h))
theorem Bl.bs {K:W.Frag}{G:Hp}{v:V}{b:List UInt8}(h:Bl G v b):Bs K G v b:=let ⟨p,e,h⟩:=h;(a0 p e (.of h))
def GI (mg:Str->Option Value)(x:Str)(i:Int):Prop:=∃ t,mg x=some (.int i t)
theorem pgi {X:Cx}{x:Str}{i:Int}{pos:Pos}(h:GI X.mg x i)(hg:Gl X x:=by rfl)(hd:(x == ("__debug__" : Str))=false:=by decide):PE X (.Name x pos) (tC (.int i)) :=
 let ⟨t,e⟩:=h;A6 hg e (j7 t rfl) hd
structure XC (K:W.Frag)(mg:Str->Option Value)(x:Str)(C:Addr):Prop where
 m:mg x=some (.ref C)
 c:bS2 K C
structure Td (K:W.Frag)(mg:Str->Option Value)(CN:Addr):Prop extends Tx K mg where
 minus_:GI mg "MINUS" 45
 point_:GI mg "POINT" 46
 slash_:GI mg "SLASH" 47
 most_:GI mg "MOST_BYTES" 512
 great_:GI mg "TOO_GREAT" 1000000000000000000
 nt:XC K mg "NotTaken" CN
section
variable {w:World}{K:W.Frag}{mg:Str->Option Value}{base:Heap}{CN:Addr}
def an6:Sp:=fun vs H Q _=>∃ c:UInt8,vs=[.int (c.toNat:Int)]/\Q (.bl (Ln.Text.isDigit c)) H
theorem bx9 (c:UInt8):Ln.Text.isDigit c=(decide ((48:Int)<=(c.toNat:Int)) && decide ((c.toNat:Int)<=57)):=by
 unfold Ln.Text.isDigit
 simp only [UInt8.le_iff_toNat_le]
 have e1:decide (UInt8.toNat 48<=c.toNat)=decide ((48:Int)<=(c.toNat:Int)):=by
  rw [show UInt8.toNat 48=48 from rfl];exact decide_eq_decide.mpr (by omega)
 have e2:decide (c.toNat<=UInt8.toNat 57)=decide ((c.toNat:Int)<=57):=by
  rw [show UInt8.toNat 57=57 from rfl];exact decide_eq_decide.mpr (by omega)
 rw [e1,e2]
theorem bg9:g9 ["byte"] ["byte"] (d7 ad9):=⟨rfl,rfl,rfl,by decide +kernel,rfl,by decide +kernel,by decide +kernel⟩
theorem bj6 {f:Addr}{fd:FuncData}(F:Fun K "is_digit" "is_digit" ad9 f fd):l6 prog w K mg base (cxX prog w) 1 f fd ["byte"] an6:=by
 refine F.okX bg9 (fun vs H Q E h=>?_) (fun cdv A outer s H vs Q E hr h=>?_)
 ·obtain ⟨c,rfl,_⟩:=h;rfl
 ·obtain ⟨c,rfl,k⟩:=h
  refine a0 _ (d5 (i4 (aq9 aw8 aw8 g7 (pv 0) g7))) ?_
  rw [bx9] at k
  refine a0 _ rfl (g6 _ _ rfl rfl (a0 _ rfl (y4 (fun h1=>?_) (fun h1=>?_))))
  ·refine g6 _ _ rfl rfl ?_
   rw [decide_eq_true h1,Bool.true_and] at k
   exact k
  ·rw [decide_eq_false h1,Bool.false_and] at k
   exact k
def twd (b:List UInt8):Nat:=(b.takeWhile Ln.Text.isDigit).length
def ap8 (K:W.Frag):Sp:=fun vs H Q _=>∃ (G:Hp) (a:V) (b:List UInt8) (p:Nat),vs=[a,.int (p:Int)]/\j6 G H/\Bs K G a b/\Q (.int ((p+twd (b.drop p):Nat):Int)) H
theorem aw0:g9 ["text","place"] ["text","place"] (d7 X0):=⟨rfl,rfl,rfl,by decide +kernel,rfl,by decide +kernel,by decide +kernel⟩
theorem C5 {b:List UInt8}{i:Nat}(h:i < b.length):b.drop i=b[i]::b.drop (i+1):=List.drop_eq_getElem_cons h
theorem bp5 {b:List UInt8}{i:Nat}(h:i < b.length)(hd:Ln.Text.isDigit b[i]=true):i+1+twd (b.drop (i+1))=i+twd (b.drop i):=by
 rw [C5 h]
 unfold twd
 rw [List.takeWhile_cons,hd,if_pos rfl,List.length_cons]
 rw [Nat.add_assoc,Nat.add_comm 1]
theorem bd1 {b:List UInt8}{i:Nat}(h:i < b.length)(hd:Ln.Text.isDigit b[i]=false):twd (b.drop i)=0:=by
 rw [C5 h]
 unfold twd
 rw [List.takeWhile_cons,hd,if_neg (by decide)];rfl
theorem aY1 {f:Addr}{fd:FuncData}(F:Fun K "digits_end" "digits_end" X0 f fd)(T:Td K mg CN)(Dd:Def prog w K mg base 1 "is_digit" ["byte"] an6):l6 prog w K mg base (cxX prog w) 2 f fd ["text","place"] (ap8 K):=by
 refine F.okX aw0 (fun vs H Q E h=>?_) (fun cdv A outer s H vs Q E hr h=>?_)
 ·obtain ⟨G,a,b,p,rfl,_⟩:=h;rfl
 ·obtain ⟨G,_,b,p,rfl,sm,⟨a,rfl,ha⟩,k⟩:=h
  refine a0 _ (c6 (U3 C9 (aB6 (j5 ar3 (pv 1) (w8 w9 (by rfl) T.len_ boot_len (b0 (pv 0) c9)) (j8 _)) (ao0 (B7 (d9 Dd hr d4 (b0 (m7 A9 (pv 0) (pv 1) (fun _ _=>rfl)) c9))))).pt
   (d5 (aa3 (i:=1) aw0.nd rfl (Or.inl rfl) g7 aN9))) (d5 (i4 (pv 1)))) ?_
  refine T9 (fun σ H'=>H'=H/\∃ i:Nat,σ=[some (.ref a),some (.int (i:Int))]/\i+twd (b.drop i)=p+twd (b.drop p)) (fun σ _=>b.length - av7 1 σ) ⟨rfl,a0 p rfl rfl⟩ ?_ ?_
  ·rintro σ H' ⟨rfl,i,rfl,e⟩
   refine a0 _ rfl (a0 _ rfl (g6 a _ rfl (.inl (sm.seq ha)) (g6 _ _ rfl rfl (a0 _ rfl (y4 (fun h1=>?_) (fun h1=>?_))))))
   ·have hi:i < b.length:=by rw [i3] at h1;omega
    refine a0 _ rfl (a0 _ rfl (j0 a _ _ _ rfl rfl (sm.seq ha) (L5 hi) (a0 (b[i]) rfl (a0 _ rfl (K0 (fun h2=>?_) (fun h2=>?_))))))
    ·refine a0 _ rfl (i5 _ _ rfl rfl ⟨rfl,a0 (i+1) rfl ?_⟩ ?_)
     ·rw [bp5 hi h2];exact e
     ·show b.length - ((i:Int)+1).toNat < b.length - ((i:Int)).toNat
      omega
    ·refine a0 _ rfl ?_
     rw [<-e,bd1 hi h2] at k
     exact k
   ·refine aj9 ?_
    have hi:b.length<=i:=by rw [i3] at h1;omega
    refine a0 _ rfl ?_
    rw [<-e,List.drop_eq_nil_of_le hi] at k
    exact k
  ·rintro σ H Q Q' hq ⟨x,e,y,e2,p,ys,e3,h3,i,j,e4,e5,z,e6,h⟩
   refine a0 x e (a0 y e2 (g6 p ys e3 h3 (g6 i j e4 e5 (a0 z e6 ?_))))
   cases z with
   | false=>rw [if_neg (by decide)] at h ⊢;exact hq _ _ h
   | true =>
    rw [if_pos rfl] at h ⊢
    obtain ⟨x1,f1,x2,f2,g1,g2,g3,g4,f3,f4,f5,f6,c,f7,u,f8,h⟩:=h
    exact a0 x1 f1 (a0 x2 f2 (j0 g1 g2 g3 g4 f3 f4 f5 f6 (a0 c f7 (a0 u f8 (hq _ _ h)))))
end
end Th
set_option maxHeartbeats 2000000
namespace Th
open PySem PySem.Spec PyProof.Rows L2
open Ln (Bytes)
open Ln.Text (isDigit natural)
theorem ad5 {b:Bytes}{i:Nat}(h:i < b.length):b.take (i+1)=b.take i++[b[i]]:=by
 rw [List.take_add_one,List.getElem?_eq_getElem h];rfl
theorem aC0 (b:Bytes)(c:UInt8):natural (b++[c])=10*natural b+(c.toNat - 48):=by
 unfold natural
 rw [List.foldl_append];rfl
theorem bn8 {c:UInt8}(h:isDigit c=true):48<=c.toNat/\c.toNat<=57:=by
 unfold isDigit at h
 simp only [Bool.and_eq_true,decide_eq_true_eq,UInt8.le_iff_toNat_le] at h
 exact h
theorem aU9 {b:Bytes}(h:b.all isDigit=true){i:Nat}(hi:i < b.length):isDigit b[i]=true:=List.all_eq_true.mp h _ (List.getElem_mem hi)
theorem ba2 {b:Bytes}{i:Nat}{x:V}(h:(h8 b)[i]?=some x):∃ hi:i < b.length,x=.int ((b[i]).toNat:Int):=by
 have hi:i < b.length:=by
  have:=(List.getElem?_eq_some_iff.mp h).1
  rw [i3] at this;exact this
 refine j7 hi ?_
 rw [X9 hi] at h
 exact (Option.some.inj h).symm
theorem bq4 {n:Nat}(h:n<=100000):n<=sizeLine:=Nat.le_trans h (by decide)
section
variable {w:World}{K:W.Frag}{mg:Str->Option Value}{base:Heap}{CN:Addr}
def an4 (K:W.Frag):Sp:=fun vs H Q _=>∃ (G:Hp) (a:V) (b:Bytes),vs=[a]/\j6 G H/\Bs K G a b/\b.all isDigit=true/\Q (.int ((natural b:Nat):Int)) H
theorem af8:g9 ["digits","value","byte"] ["digits"] (d7 R5):=⟨rfl,rfl,rfl,by decide +kernel,rfl,by decide +kernel,by decide +kernel⟩
theorem bj2 {f:Addr}{fd:FuncData}(F:Fun K "whole_value" "whole_value" R5 f fd):l6 prog w K mg base (cxX prog w) 1 f fd ["digits"] (an4 K):=by
 refine F.okX af8 (fun vs H Q E h=>?_) (fun cdv A outer s H vs Q E hr h=>?_)
 ·obtain ⟨G,a,b,rfl,_⟩:=h;rfl
 ·obtain ⟨G,_,b,rfl,sm,⟨a,rfl,ha⟩,hd,k⟩:=h
  refine a0 _ (c6 (h9 (i:=1) af8.nd rfl (Or.inl rfl) g7) (c6 (O8 C9 rfl (L4 (pv 0)) (B6 (i:=2) af8.nd rfl (Or.inl rfl)) (d5 (h9 (i:=1) af8.nd rfl (Or.inl rfl) (i6 T5 (i6 J3 (i6 bF7 (pv 1) g7) (pv 2)) g7)))) (d5 (i4 (pv 1))))) ?_
  refine a0 _ rfl (d8 a rfl (j7 _ (sm.seq ha)) (L7 (K:=K) (a:=a) (xs:=h8 b) (fun i σ H'=>H'=H/\∃ r,σ=[some (.ref a),some (.int ((natural (b.take i):Nat):Int)),r]) ⟨rfl,j7 none rfl⟩ (fun i σ H' _ ⟨e,_⟩=>by rw [e];exact sm.seq ha) ?_ ?_))
  ·rintro i x σ H' hx ⟨rfl,r,rfl⟩
   obtain ⟨hi,rfl⟩:=ba2 hx
   refine a0 _ rfl (i5 _ _ rfl rfl (.inr ⟨by decide,by decide⟩) (a0 _ rfl (g6 _ _ rfl rfl (i5 _ _ rfl rfl rfl (j7 (some (.int ((b[i].toNat:Nat):Int))) ?_)))))
   have q:=bn8 (aU9 hd hi)
   have e:((natural (b.take i):Nat):Int)*10+((b[i].toNat:Nat):Int) - 48=((natural (b.take (i+1)):Nat):Int):=by
    rw [ad5 hi,aC0];omega
   rw [<-e];rfl
  ·rintro σ H' ⟨rfl,r,rfl⟩
   refine a0 _ rfl ?_
   rw [i3,List.take_length];exact k
def aj0 (K:W.Frag):Sp:=fun vs H Q _=>∃ (G:Hp) (a z:V) (x y:Bytes),vs=[a,z]/\j6 G H/\Bl G a x/\Bl G z y/\(x++y).all isDigit=true/\x.length+y.length<=1000/\∀ v G' H',Ext [] G H G' H'->Fr K G' v (((natural (x++y):Nat):Rat) / ((10 ^ y.length:Nat):Rat))->Q v H'
theorem V9:g9 ["front","back","bottom","byte"] ["front","back"] (d7 M3):=⟨rfl,rfl,rfl,by decide +kernel,rfl,by decide +kernel,by decide +kernel⟩
theorem aN0 {f:Addr}{fd:FuncData}(F:Fun K "pointed_value" "pointed_value" M3 f fd)(Df:Def prog w K mg base 2 "fraction" ["top","bottom"] (ad6 K))(Dw:Def prog w K mg base 1 "whole_value" ["digits"] (an4 K)):l6 prog w K mg base (cxX prog w) 3 f fd ["front","back"] (aj0 K):=by
 refine F.okX V9 (fun vs H Q E h=>?_) (fun cdv A outer s H vs Q E hr h=>?_)
 ·obtain ⟨G,a,z,x,y,rfl,_⟩:=h;rfl
 ·obtain ⟨G,_,_,x,y,rfl,sm,⟨a,rfl,ha⟩,⟨z,rfl,hz⟩,hd,hl,k⟩:=h
  refine a0 _ (c6 (h9 (i:=2) V9.nd rfl (Or.inl rfl) g7) (c6 (O8 C9 rfl (L4 (pv 1)) (B6 (i:=3) V9.nd rfl (Or.inl rfl)) (d5 (aa3 (i:=2) V9.nd rfl (Or.inl rfl) g7 bw7)))
   (d5 (i4 (d9 Df hr d4 (b0 (d9 Dw (hr.mono (by decide)) d4 (b0 (i6 aM9 (pv 0) (pv 1)) c9)) (b0 (pv 2) c9))))))) ?_
  have hz':SqL K H z (h8 y):=.of (sm _ _ hz)
  refine a0 _ rfl (d8 z rfl (j7 _ hz') (L7 (K:=K) (a:=z) (xs:=h8 y) (fun i σ H'=>H'=H/\∃ r,σ=[some (.ref a),some (.ref z),some (.int ((10 ^ i:Nat):Int)),r]) ⟨rfl,j7 none rfl⟩ (fun i σ H' _ ⟨e,_⟩=>by rw [e];exact hz') ?_ ?_))
  ·rintro i u σ H' hx ⟨rfl,r,rfl⟩
   refine a0 _ rfl (C6 _ _ rfl rfl (.inr ⟨by decide,by decide⟩) rfl (j7 (some u) ?_))
   have e:((10 ^ i:Nat):Int)*10=((10 ^ (i+1):Nat):Int):=by rw [Nat.pow_succ];omega
   rw [<-e];rfl
  ·rintro σ H' ⟨rfl,r,rfl⟩
   refine a0 _ rfl (a0 _ rfl (l0 a z _ _ rfl rfl (sm _ _ ha) (sm _ _ hz) ?_ (fun p hp=>?_)))
   ·rw [i3,i3];exact bq4 (by omega)
   ·have e1:=(Ext.refl (M:=[]) sm).lay hp (o:=.lst (h8 x++h8 y))
    refine u0 _ _ (x++y) rfl e1.sub (a0 p rfl ?_) hd (a0 _ rfl ?_)
    ·refine .of ?_
     rw [c7]
     unfold h8
     rw [List.map_append]
    ·refine j4 _ _ _ rfl ?_ e1.sub (fun v G' H' e2 h2=>k v G' H' (e1.trans e2) ?_)
     ·rw [i3]
      have:0 < 10 ^ y.length:=Nat.pow_pos (by decide)
      omega
     ·rw [i3] at h2;exact h2
def bz0 (K:W.Frag)(CN:Addr)(G H:Hp)(r:Option Rat)(Q:VK)(E:XK):Prop:=match r with
 | some q=>∀ v G' H',Ext [] G H G' H'->Fr K G' v q->Q v H'
 | none=>∀ H',E (.ref CN) none H'
theorem bc8 {b:Bytes}(h:b.takeWhile isDigit=[]):Ma.x6 b=none:=by
 unfold Ma.x6;dsimp only;rw [if_pos h]
theorem bc7 {b:Bytes}(h:¬ b.takeWhile isDigit=[])(h2:b.length<=twd b):Ma.x6 b=some ((natural (b.takeWhile isDigit):Nat):Rat):=by
 unfold Ma.x6;dsimp only;rw [if_neg h,show b.drop (b.takeWhile isDigit).length=[] from List.drop_eq_nil_of_le h2]
theorem bp3 {b:Bytes}(h:¬ b.takeWhile isDigit=[])(h2:twd b < b.length):Ma.x6 b=(if b.drop (twd b+1)=[]\/(b.drop (twd b+1)).all isDigit=false then none
   else if b[twd b]=46 then some (((natural (b.takeWhile isDigit++b.drop (twd b+1)):Nat):Rat) / ((10 ^ (b.drop (twd b+1)).length:Nat):Rat))
   else if b[twd b]=47/\0 < natural (b.drop (twd b+1)) then some (((natural (b.takeWhile isDigit):Nat):Rat) / ((natural (b.drop (twd b+1)):Nat):Rat))
   else none):=by
 unfold Ma.x6;dsimp only;rw [if_neg h]
 have e:b.drop (b.takeWhile isDigit).length=b[twd b]::b.drop (twd b+1):=C5 h2
 rw [e]
theorem aU0 (b:Bytes):(twd b < b.length)↔b.all isDigit=false:=by
 have h:=Ma.ah5 (p:=isDigit) b
 have hl:twd b<=b.length:=(List.takeWhile_prefix _).length_le
 constructor
 ·intro q
  cases z:b.all isDigit with
  | false=>rfl
  | true =>
   have:=List.drop_eq_nil_iff.mp (h.mpr z)
   unfold twd at q;omega
 ·intro q
  rcases Nat.lt_or_ge (twd b) b.length with z | z
  ·exact z
  ·have:=h.mp (List.drop_eq_nil_of_le z)
   rw [q] at this;cases this
theorem ac7 {b:Bytes}:(y6 b=y6 [])↔b=[]:=⟨fun h=>U9 h,fun h=>by rw [h]⟩
def bz8 (K:W.Frag)(CN:Addr):Sp:=fun vs H Q E=>∃ (G:Hp) (a:V) (b:Bytes),vs=[a]/\j6 G H/\Bs K G a b/\b.length<=512/\bz0 K CN G H (Ma.x6 b) Q E
theorem aA5:g9 ["text","middle","front","back"] ["text"] (d7 K4):=⟨rfl,rfl,rfl,by decide +kernel,rfl,by decide +kernel,by decide +kernel⟩
theorem bG2 {f:Addr}{fd:FuncData}(F:Fun K "unsigned_value" "unsigned_value" K4 f fd)(T:Td K mg CN)(De:Def prog w K mg base 2 "digits_end" ["text","place"] (ap8 K))
  (Df:Def prog w K mg base 2 "fraction" ["top","bottom"] (ad6 K)) (Dw:Def prog w K mg base 1 "whole_value" ["digits"] (an4 K)) (Dp:Def prog w K mg base 3 "pointed_value" ["front","back"] (aj0 K)):l6 prog w K mg base (cxX prog w) 4 f fd ["text"] (bz8 K CN):=by
 refine F.okX aA5 (fun vs H Q E h=>?_) (fun cdv A outer s H vs Q E hr h=>?_)
 ·obtain ⟨G,a,b,rfl,_⟩:=h;rfl
 ·obtain ⟨G,_,b,rfl,sm,⟨a,rfl,ha⟩,hlen,k⟩:=h
  have hu:=hr.units
  have hr1:=hr.mono (show 1<=3 by decide)
  have hr2:=hr.mono (show 2<=3 by decide)
  refine a0 _ (c6 (h9 (i:=1) aA5.nd rfl (Or.inl rfl) (d9 De hr2 d4 (b0 (pv 0) (b0 g7 c9))))
   (c6 (h9 (i:=2) aA5.nd rfl (Or.inl rfl) (E9 L0 (pv 0) X4 (D5 (pv 1))))
   (c6 (h9 (i:=3) aA5.nd rfl (Or.inl rfl) (E9 L0 (pv 0) (D5 (i6 J3 (pv 1) g7)) X4))
   (c6 (q0 (j5 (ar4 hu) (pv 2) (B2 c9) (j8 _)) (d5 (D4 L9 rfl (by rfl) T.nt.m T.nt.c)) j3)
   (c6 (q0 (j5 E0 (pv 1) (w8 w9 (by rfl) T.len_ boot_len (b0 (pv 0) c9)) (j8 _)) (d5 (i4 (d9 Df hr2 d4 (b0 (d9 Dw hr1 d4 (b0 (pv 2) c9)) (b0 g7 c9))))) j3)
   (c6 (q0 (aw4 (j5 (ar4 hu) (pv 3) (B2 c9) (j8 _)) (aq5 (j5 ar3 (d9 De hr2 d4 (b0 (pv 3) (b0 g7 c9))) (w8 w9 (by rfl) T.len_ boot_len (b0 (pv 3) c9)) (j8 _)))).pt (d5 (D4 L9 rfl (by rfl) T.nt.m T.nt.c)) j3)
   (c6 (q0 (j5 E0 (m7 A9 (pv 0) (pv 1) (fun _ _=>rfl)) (pgi T.point_) (j8 _)) (d5 (i4 (d9 Dp hr d4 (b0 (pv 2) (b0 (pv 3) c9))))) j3)
   (c6 (q0 (aB6 (j5 E0 (m7 A9 (pv 0) (pv 1) (fun _ _=>rfl)) (pgi T.slash_) (j8 _)) (ao0 (j5 al4 (d9 Dw hr1 d4 (b0 (pv 3) c9)) g7 (j8 _)))).pt
    (d5 (i4 (d9 Df hr2 d4 (b0 (d9 Dw hr1 d4 (b0 (pv 2) c9)) (b0 (d9 Dw hr1 d4 (b0 (pv 3) c9)) c9))))) j3)
   (d5 (D4 L9 rfl (by rfl) T.nt.m T.nt.c)))))))))) ?_
  have hm:twd b<=b.length:=(List.takeWhile_prefix _).length_le
  have hdrop0:b.drop 0=b:=List.drop_zero ..
  refine a0 _ rfl (l7 G _ b 0 rfl sm (a0 a rfl ha) ?_)
  rw [hdrop0,Nat.zero_add]
  have ef:Q0 (h8 b) none (some ((twd b:Nat):Int))=h8 (b.takeWhile isDigit):=by rw [aO7 b _ hm];unfold twd;rw [Ma.V4]
  have eb:Q0 (h8 b) (some (((twd b:Nat):Int)+1)) none=h8 (b.drop (twd b+1)):=by
   have:=at3 b (twd b+1)
   rw [<-this];rfl
  refine a0 _ rfl (a0 _ rfl (a0 _ rfl (g6 a _ rfl (sm.seq ha) (fun p hp=>?_))))
  rw [ef]
  have E1:=(Ext.refl (M:=[]) sm).lay hp (o:=.lst (h8 (b.takeWhile isDigit)))
  refine a0 _ rfl (a0 _ rfl (g6 _ _ rfl rfl (a0 _ rfl (g6 a (h8 b) rfl (E1.sub.seq (E1.grow.seq ha)) (fun q hq=>?_)))))
  rw [eb]
  have E2:=E1.lay hq (o:=.lst (h8 (b.drop (twd b+1))))
  generalize hG2:upd (upd G p (.lst (h8 (b.takeWhile isDigit)))) q (.lst (h8 (b.drop (twd b+1))))=G2 at E2
  generalize hH2:upd (upd H p (.lst (h8 (b.takeWhile isDigit)))) q (.lst (h8 (b.drop (twd b+1))))=H2 at E2
  have hpq:p≠q:=i0 (c7 (H:=H) (a:=p)) hq
  have hF:G2 p=some (.lst (h8 (b.takeWhile isDigit))):=by rw [<-hG2,d6 hpq,c7]
  have hB:G2 q=some (.lst (h8 (b.drop (twd b+1)))):=by rw [<-hG2,c7]
  have hT:SqL K G2 a (h8 b):=E2.grow.seq ha
  clear hG2 hH2
  refine d8 _ rfl (by show 0<=sizeLine;decide) (fun l hl=>?_)
  have E3:=E2.lend hl (o:=.lst [])
  refine j0 p l (y6 (b.takeWhile isDigit)) (y6 []) rfl rfl (by rw [<-F9];exact .of (E3.sub _ _ hF)) (.of c7) (a0 _ rfl (y4 (fun h1=>?_) (fun h1=>?_)))
  ·rw [bc8 (ac7.mp h1)] at k
   exact k _
  have h1':¬ b.takeWhile isDigit=[]:=fun z=>h1 (ac7.mpr z)
  refine a0 _ rfl (a0 _ rfl (i5 a _ rfl (.inl (E3.sub.seq hT)) rfl (a0 _ rfl (K9 (fun h2=>?_) (fun h2=>?_)))))
  ·rw [i3] at h2
   rw [bc7 h1' (by omega)] at k
   refine a0 _ rfl (u0 G2 _ _ rfl E3.sub (a0 p rfl (.of hF)) (Ma.K2 b) (j4 G2 _ _ rfl (by decide) E3.sub (fun v G' H' e h=>k v G' H' (E3.trans e) ?_)))
   have e1:((((natural (b.takeWhile isDigit):Nat):Int):Rat) / ((1:Int):Rat))=((natural (b.takeWhile isDigit):Nat):Rat):=by
    rw [show (((1:Int)):Rat)=1 from rfl]
    have:(((natural (b.takeWhile isDigit):Nat):Int):Rat)=((natural (b.takeWhile isDigit):Nat):Rat):=rfl
    grind
   rw [<-e1];exact h
  have hlt:twd b < b.length:=by rw [i3] at h2;omega
  rw [bp3 h1' hlt] at k
  refine d8 _ rfl (by show 0<=sizeLine;decide) (fun l2 hl2=>?_)
  have E4:=E3.lend hl2 (o:=.lst [])
  have hl2':SqL K (upd (upd H2 l (.lst [])) l2 (.lst [])) l2 []:=.of c7
  generalize upd (upd H2 l (.lst [])) l2 (.lst [])=H4 at E4 hl2'
  refine j0 q l2 (y6 (b.drop (twd b+1))) (y6 []) rfl rfl (by rw [<-F9];exact .of (E4.sub _ _ hB)) hl2' (a0 _ rfl (y4 (fun h3=>?_) (fun h3=>?_)))
  ·rw [if_pos (.inl (ac7.mp h3))] at k
   exact ag8 (k _)
  have h3':¬ b.drop (twd b+1)=[]:=fun z=>h3 (ac7.mpr z)
  refine a0 _ rfl (l7 G2 _ (b.drop (twd b+1)) 0 rfl E4.sub (a0 q rfl (.of hB)) (a0 _ rfl (g6 q _ rfl (.inl (.of (E4.sub _ _ hB))) (g6 _ _ rfl rfl (a0 _ rfl (y4 (fun h4=>?_) (fun h4=>?_)))))))
  ·rw [i3,List.drop_zero,Nat.zero_add] at h4
   rw [if_pos (.inr ((aU0 _).mp (by omega)))] at k
   exact k _
  have h4':(b.drop (twd b+1)).all isDigit=true:=by
   rw [i3,List.drop_zero,Nat.zero_add] at h4
   cases z:(b.drop (twd b+1)).all isDigit with
   | true=>rfl
   | false=>exact absurd ((aU0 _).mpr z) (by omega)
  rw [if_neg (by rw [h4'];simp [h3'])] at k
  refine a0 _ rfl (a0 _ rfl (l0 a _ _ _ rfl rfl (E4.sub.seq hT) (L5 hlt) rfl (a0 _ rfl (K9 (fun h5=>?_) (fun h5=>?_)))))
  ·have h5':b[twd b]=46:=UInt8.toNat_inj.mp (by show _=46;omega)
   rw [if_pos h5'] at k
   refine a0 _ rfl (a0 _ rfl (K1 G2 _ _ (b.takeWhile isDigit) (b.drop (twd b+1)) rfl E4.sub (a0 p rfl hF) (a0 q rfl hB) ?_ ?_ (fun v G' H' e h=>k v G' H' (E4.trans e) h)))
   ·rw [List.all_append,h4',Ma.K2];rfl
   ·have:(b.takeWhile isDigit).length=twd b:=rfl
    rw [List.length_drop];omega
  have h5':¬ b[twd b]=46:=fun z=>h5 (by rw [z];rfl)
  rw [if_neg h5'] at k
  refine a0 _ rfl (a0 _ rfl (l0 a _ _ _ rfl rfl (E4.sub.seq hT) (L5 hlt) rfl (a0 _ rfl (K9 (fun h6=>?_) (fun h6=>?_)))))
  ·have h6':b[twd b]=47:=UInt8.toNat_inj.mp (by show _=47;omega)
   refine a0 _ rfl (u0 G2 _ _ rfl E4.sub (a0 q rfl (.of hB)) h4' (g6 _ _ rfl rfl (a0 _ rfl (y4 (fun h7=>?_) (fun h7=>?_)))))
   ·rw [if_pos ⟨h6',by omega⟩] at k
    refine a0 _ rfl (u0 G2 _ _ rfl E4.sub (a0 p rfl (.of hF)) (Ma.K2 b) (a0 _ rfl (u0 G2 _ _ rfl E4.sub (a0 q rfl (.of hB)) h4' (j4 G2 _ _ rfl (by omega) E4.sub (fun v G' H' e h=>k v G' H' (E4.trans e) h)))))
   ·rw [if_neg (by rintro ⟨_,z⟩;omega)] at k
    exact k _
  ·have h6':¬ b[twd b]=47:=fun z=>h6 (by rw [z];rfl)
   rw [if_neg (fun z=>h6' z.1)] at k
   exact aj9 (k _)
theorem bw9 {b:Bytes}(h:512 < b.length):Ma.y2 b=none:=by unfold Ma.y2;rw [if_pos h]
theorem bR2 {b:Bytes}(h:¬ 512 < b.length):Ma.y2 b=match Ma.V6 b with
  | some q=>if Ln.Num.fits q=true then some q else none
  | none=>none:=by unfold Ma.y2;rw [if_neg h];try rfl
theorem be9 (t:Bytes):Ma.V6 (45::t)=(Ma.x6 t).map fun q=>-q:=rfl
theorem be8 {b:Bytes}(h:b.take 1≠[45]):Ma.V6 b=Ma.x6 b:=by
 unfold Ma.V6
 split
 ·rename_i t;exact absurd rfl h
 ·rfl
theorem as7 (q:Rat):Ln.Num.fits q=true↔((q.num.natAbs:Nat):Int) < 1000000000000000000/\((q.den:Nat):Int) < 1000000000000000000:=by
 unfold Ln.Num.fits
 rw [Bool.and_eq_true,decide_eq_true_eq,decide_eq_true_eq]
 have:(10:Nat) ^ 18=1000000000000000000:=by decide
 rw [this]
 omega
def aF0 (K:W.Frag)(CN:Addr):Sp:=fun vs H Q E=>∃ (G:Hp) (a:V) (b:Bytes),vs=[a]/\j6 G H/\Bs K G a b/\bz0 K CN G H (Ma.y2 b) Q E
theorem aj5:g9 ["text","value"] ["text"] (d7 S1):=⟨rfl,rfl,rfl,by decide +kernel,rfl,by decide +kernel,by decide +kernel⟩
theorem aX9 {f:Addr}{fd:FuncData}(F:Fun K "handed_over" "handed_over" S1 f fd)(T:Td K mg CN)(Dn:Def prog w K mg base 1 "negative" ["x"] (sp1 K (fun _=>True) fun p=>-p))(Du:Def prog w K mg base 4 "unsigned_value" ["text"] (bz8 K CN)):l6 prog w K mg base (cxX prog w) 5 f fd ["text"] (aF0 K CN):=by
 refine F.okX aj5 (fun vs H Q E h=>?_) (fun cdv A outer s H vs Q E hr h=>?_)
 ·obtain ⟨G,a,b,rfl,_⟩:=h;rfl
 ·obtain ⟨G,_,b,rfl,sm,⟨a,rfl,ha⟩,k⟩:=h
  have hu:=hr.units
  have hr1:=hr.mono (show 1<=4 by decide)
  refine a0 _ (c6 (q0 (j5 al4 (w8 w9 (by rfl) T.len_ boot_len (b0 (pv 0) c9)) (pgi T.most_) (j8 _)) (d5 (D4 L9 rfl (by rfl) T.nt.m T.nt.c)) j3)
   (M6 (q0 (j5 (ar4 hu) (E9 L0 (pv 0) X4 (D5 g7)) (B2 (b0 (pgi T.minus_) c9)) (j8 _))
    (d5 (h9 (i:=1) aj5.nd rfl (Or.inl rfl) (d9 Dn hr1 d4 (b0 (d9 Du hr d4 (b0 (E9 L0 (pv 0) (D5 g7) X4) c9)) c9))))
    (d5 (h9 (i:=1) aj5.nd rfl (Or.inl rfl) (d9 Du hr d4 (b0 (pv 0) c9)))))
   (c6 (q0 (aw4 (j5 bi9 (w8 at6 (by rfl) T.abs_ boot_abs (b0 (px 1 (pv 1)) c9)) (pgi T.great_) (j8 _)) (aq5 (j5 bi9 (px 1 (pv 1)) (pgi T.great_) (j8 _)))).pt (d5 (D4 L9 rfl (by rfl) T.nt.m T.nt.c)) j3)
   (d5 (i4 (pv 1)))))) ?_
  refine a0 _ rfl (g6 a _ rfl (.inl (sm.seq ha)) (g6 _ _ rfl rfl (a0 _ rfl (y4 (fun h1=>?_) (fun h1=>?_)))))
  ·rw [i3] at h1
   rw [bw9 (by omega)] at k
   exact k _
  have h1':¬ 512 < b.length:=by rw [i3] at h1;omega
  rw [bR2 h1'] at k
  have z1:∀ v:V,L2.start ["text","value"] [V.ref a]=[some (V.ref a),none]:=fun _=>rfl
  refine a0 (fun σ' H'=>∃ v q G',σ'=[some (.ref a),some v]/\Ext [] G H G' H'/\Fr K G' v q/\bz0 K CN G H (if Ln.Num.fits q=true then some q else none) Q E) ?_ ?_
  ·-- if text[:1] == [MINUS]
   refine a0 _ rfl (a0 _ rfl (g6 a _ rfl (sm.seq ha) (fun p hp=>?_)))
   have ec:Q0 (h8 b) none (some 1)=h8 (b.take 1):=by
    by_cases hz:1<=b.length
    ·exact aO7 b 1 hz
    ·have:b=[]:=by cases b with | nil=>rfl | cons=>simp at hz
     subst this;rfl
   rw [ec]
   have E1:=(Ext.refl (M:=[]) sm).lay hp (o:=.lst (h8 (b.take 1)))
   refine ⟨(by show 1<=sizeLine;decide),fun l hl=>?_⟩
   have E2:=E1.lay hl (o:=.lst [.int 45])
   have hpl:p≠l:=i0 (c7 (H:=H) (a:=p)) hl
   have hP:upd (upd G p (.lst (h8 (b.take 1)))) l (.lst [.int 45]) p=some (.lst (h8 (b.take 1))):=by rw [d6 hpl,c7]
   have hL:upd (upd G p (.lst (h8 (b.take 1)))) l (.lst [.int 45]) l=some (.lst [.int 45]):=c7
   generalize upd (upd G p (.lst (h8 (b.take 1)))) l (.lst [.int 45])=G2 at E2 hP hL
   generalize upd (upd H p (.lst (h8 (b.take 1)))) l (.lst [.int 45])=H2 at E2
   refine j0 p l (y6 (b.take 1)) ([45]) rfl rfl (by rw [<-F9];exact .of (E2.sub _ _ hP)) (.of (E2.sub _ _ hL)) (a0 _ rfl (y4 (fun h2=>?_) (fun h2=>?_)))
   ·have h2':b.take 1=[45]:=U9 (show y6 (b.take 1)=y6 [45] from h2)
    obtain ⟨t,rfl⟩:∃ t,b=45::t:=by
     cases b with
     | nil=>simp at h2'
     | cons c t=>simp at h2';exact j7 t (by rw [h2'])
    rw [be9] at k
    refine a0 _ rfl (a0 _ rfl (g6 a (h8 (45::t)) rfl (E2.sub.seq (E2.grow.seq ha)) (fun r hr'=>?_)))
    rw [show Q0 (h8 (45::t)) (some 1) none=h8 t from at3 (45::t) 1]
    have E3:=E2.lay hr' (o:=.lst (h8 t))
    refine u0 _ _ t rfl E3.sub (a0 r rfl (.of c7)) ?_ ?_
    ·simp at h1';omega
    ·cases hv:Ma.x6 t with
     | none=>rw [hv] at k;exact k
     | some q =>
      rw [hv] at k
      intro v G3 H3 e3 f3
      refine u0 G3 _ q rfl e3.sub f3 trivial (fun v4 G4 H4 e4 f4=>(j4 v4 (-q) G4 rfl ((E3.trans e3).trans e4) f4 k))
   ·have h2':b.take 1≠[45]:=fun z=>h2 (by rw [z];rfl)
    rw [be8 h2'] at k
    refine a0 _ rfl (u0 G2 _ b rfl E2.sub (a0 a rfl (E2.grow.seq ha)) (by omega) ?_)
    cases hv:Ma.x6 b with
    | none=>rw [hv] at k;exact k
    | some q =>
     rw [hv] at k
     intro v G3 H3 e3 f3
     exact j4 v q G3 rfl (E2.trans e3) f3 k
  ·rintro σ' H' ⟨v,q,G',rfl,e1,⟨r,rfl,hr'⟩,k⟩
   refine j4 r _ _ rfl (e1.sub.seqT hr') rfl (a0 _ rfl (g6 _ _ rfl rfl (a0 _ rfl (y4 (fun h2=>?_) (fun h2=>?_)))))
   ·have:¬ Ln.Num.fits q=true:=fun z=>by
     have:=(as7 q).mp z
     rw [ac2] at h2;omega
    rw [if_neg this] at k
    exact ag8 (k _)
   ·refine j4 r _ _ rfl (e1.sub.seqT hr') rfl (g6 _ _ rfl rfl (a0 _ rfl (y4 (fun h3=>?_) (fun h3=>?_))))
    ·have:¬ Ln.Num.fits q=true:=fun z=>by
      have:=(as7 q).mp z
      omega
     rw [if_neg this] at k
     exact k _
    ·have:Ln.Num.fits q=true:=(as7 q).mpr (by rw [ac2] at h2;omega)
     rw [if_pos this] at k
     exact a0 _ rfl (k _ _ _ e1 (a0 r rfl hr'))
end
end Th
set_option maxHeartbeats 2000000
namespace Th
open PySem PySem.Spec PyProof.Rows L2
open Ln (Bytes)
open Ln.Text (isDigit natural isLetter Tok tokenIn WORDS)
structure Tk (K:W.Frag)(mg:Str->Option Value)(CN:Addr):Prop extends Td K mg CN where
 hash_:GI mg "HASH" 35
 line_:GI mg "LINE_END" 10
 mname_:GI mg "MOST_NAME_BYTES" 32
 mdig_:GI mg "MOST_DIGITS" 18
 ord_:mg "ord"=none
section
variable {w:World}{K:W.Frag}{mg:Str->Option Value}{base:Heap}{CN:Addr}
def ap9:Sp:=fun vs H Q _=>∃ c:UInt8,vs=[.int (c.toNat:Int)]/\Q (.bl (isLetter c)) H
theorem bv7 (c:UInt8):isLetter c=((decide ((65:Int)<=(c.toNat:Int)) && decide ((c.toNat:Int)<=90)) || ((decide ((97:Int)<=(c.toNat:Int)) && decide ((c.toNat:Int)<=122)) || decide ((c.toNat:Int)=95))):=by
 unfold isLetter
 simp only [UInt8.le_iff_toNat_le]
 have e1:decide (UInt8.toNat 65<=c.toNat)=decide ((65:Int)<=(c.toNat:Int)):=by
  rw [show UInt8.toNat 65=65 from rfl];exact decide_eq_decide.mpr (by omega)
 have e2:decide (c.toNat<=UInt8.toNat 90)=decide ((c.toNat:Int)<=90):=by
  rw [show UInt8.toNat 90=90 from rfl];exact decide_eq_decide.mpr (by omega)
 have e3:decide (UInt8.toNat 97<=c.toNat)=decide ((97:Int)<=(c.toNat:Int)):=by
  rw [show UInt8.toNat 97=97 from rfl];exact decide_eq_decide.mpr (by omega)
 have e4:decide (c.toNat<=UInt8.toNat 122)=decide ((c.toNat:Int)<=122):=by
  rw [show UInt8.toNat 122=122 from rfl];exact decide_eq_decide.mpr (by omega)
 have e5:(c == 95)=decide ((c.toNat:Int)=95):=by
  by_cases h:c=95
  ·subst h;rfl
  ·have h2:¬ (c.toNat:Int)=95:=fun z=>h (UInt8.toNat_inj.mp (by show _=95;omega))
   rw [decide_eq_false h2];simpa using h
 rw [e1,e2,e3,e4,e5,Bool.or_comm,Bool.or_assoc]
theorem aW9:g9 ["byte"] ["byte"] (d7 S2):=⟨rfl,rfl,rfl,by decide +kernel,rfl,by decide +kernel,by decide +kernel⟩
theorem aY3 {f:Addr}{fd:FuncData}(F:Fun K "begins_name" "begins_name" S2 f fd):l6 prog w K mg base (cxX prog w) 1 f fd ["byte"] ap9:=by
 refine F.okX aW9 (fun vs H Q E h=>?_) (fun cdv A outer s H vs Q E hr h=>?_)
 ·obtain ⟨c,rfl,_⟩:=h;rfl
 ·obtain ⟨c,rfl,k⟩:=h
  refine a0 _ (d5 (i4 (aS2 (aq9 aw8 aw8 g7 (pv 0) g7) (aS2 (aq9 aw8 aw8 g7 (pv 0) g7) (aB8 (Q6 E0 (pv 0) g7 (j8 _))))))) ?_
  rw [bv7] at k
  refine a0 _ rfl (g6 _ _ rfl rfl (a0 _ rfl ?_))
  have rest:∀ (h0:(decide ((65:Int)<=(c.toNat:Int)) && decide ((c.toNat:Int)<=90))=false),bM7 (be3 (rI0 fun i j=>.bl (decide (i<=j))) (rI0 fun i j=>.bl (decide (i<=j))) (tC (.int 97)) (J9 0) (tC (.int 122))) (tOp rEq (J9 0) (tC (.int 95))) [some (.int (c.toNat:Int))] H Q:=by
   intro h0
   rw [h0,Bool.false_or] at k
   refine a0 _ rfl (g6 _ _ rfl rfl (a0 _ rfl (y4 (fun h1=>?_) (fun h1=>?_))))
   ·refine g6 _ _ rfl rfl (a0 _ rfl (y4 (fun h2=>?_) (fun h2=>?_)))
    ·rw [decide_eq_true h1,decide_eq_true h2] at k;exact k
    ·rw [decide_eq_true h1,decide_eq_false h2] at k
     refine d8 _ rfl rfl ?_
     have e:decide (V.int ((c.toNat:Nat):Int)=V.int 95)=decide ((c.toNat:Int)=95):=decide_eq_decide.mpr ⟨fun z=>V.int.inj z,fun z=>by rw [z]⟩
     rw [e];exact k
   ·rw [decide_eq_false h1] at k
    refine a0 _ rfl (aj9 (d8 _ rfl rfl ?_))
    have e:decide (V.int ((c.toNat:Nat):Int)=V.int 95)=decide ((c.toNat:Int)=95):=decide_eq_decide.mpr ⟨fun z=>V.int.inj z,fun z=>by rw [z]⟩
    rw [e];exact k
  refine y4 (fun h1=>?_) (fun h1=>?_)
  ·refine g6 _ _ rfl rfl (a0 _ rfl (y4 (fun h2=>?_) (fun h2=>?_)))
   ·rw [decide_eq_true h1,decide_eq_true h2] at k;exact k
   ·exact rest (by rw [decide_eq_false h2,Bool.and_false])
  ·exact a0 _ rfl (aj9 (rest (by rw [decide_eq_false h1];rfl)))
def C0 (c:UInt8):Bool:=isLetter c || isDigit c
def aL8:Sp:=fun vs H Q _=>∃ c:UInt8,vs=[.int (c.toNat:Int)]/\Q (.bl (C0 c)) H
theorem br6:g9 ["byte"] ["byte"] (d7 O2):=⟨rfl,rfl,rfl,by decide +kernel,rfl,by decide +kernel,by decide +kernel⟩
theorem bu6 {f:Addr}{fd:FuncData}(F:Fun K "goes_on_name" "goes_on_name" O2 f fd)(Db:Def prog w K mg base 1 "begins_name" ["byte"] ap9)(Dd:Def prog w K mg base 1 "is_digit" ["byte"] an6):l6 prog w K mg base (cxX prog w) 2 f fd ["byte"] aL8:=by
 refine F.okX br6 (fun vs H Q E h=>?_) (fun cdv A outer s H vs Q E hr h=>?_)
 ·obtain ⟨c,rfl,_⟩:=h;rfl
 ·obtain ⟨c,rfl,k⟩:=h
  refine a0 _ (d5 (i4 (aS2 (d9 Db hr d4 (b0 (pv 0) c9)) (aB8 (d9 Dd hr d4 (b0 (pv 0) c9)))))) ?_
  refine a0 _ rfl (a0 c rfl (a0 _ rfl (K0 (fun h=>?_) (fun h=>?_))))
  ·unfold C0 at k;rw [h] at k;exact k
  ·unfold C0 at k;rw [h] at k
   exact a0 _ rfl (a0 c rfl k)
def aF2 (K:W.Frag):Sp:=fun vs H Q _=>∃ (G:Hp) (a:V) (b:Bytes) (p:Nat),vs=[a,.int (p:Int)]/\j6 G H/\Bs K G a b/\p<=b.length/\∀ G' H',Ext [] G H G' H'->Q (.int ((Ma.l4 b p:Nat):Int)) H'
theorem N1:g9 ["text","place","comment","byte"] ["text","place"] (d7 X1):=⟨rfl,rfl,rfl,by decide +kernel,rfl,by decide +kernel,by decide +kernel⟩
theorem aW2 (cm:Bool)(c:UInt8)(r:Bytes):Ma.C3 cm (c::r)=if (!(if c=10 then false else if c=35 then true else cm) && !Ma.ak0 c)=true then 0 else 1+Ma.C3 (if c=10 then false else if c=35 then true else cm) r:=rfl
theorem bm2 (c:UInt8):inV (.int (c.toNat:Int)) [.int 32,.int 9,.int 10,.int 13]=Ma.ak0 c:=by
 have e:∀ n:UInt8,((n.toNat:Int) == (c.toNat:Int))=(c == n):=fun n=>by
  by_cases h:c=n
  ·subst h;simp
  ·have:¬ (n.toNat:Int)=(c.toNat:Int):=fun z=>h (UInt8.toNat_inj.mp (by omega))
   rw [beq_eq_false_iff_ne.mpr this,beq_eq_false_iff_ne.mpr h]
 unfold inV Ma.ak0
 show (((32:Int) == (c.toNat:Int)) || (((9:Int) == (c.toNat:Int)) || (((10:Int) == (c.toNat:Int)) || (((13:Int) == (c.toNat:Int)) || false))))=_
 have e1:=e 32
 have e2:=e 9
 have e3:=e 10
 have e4:=e 13
 rw [show ((32:UInt8).toNat:Int)=32 from rfl] at e1
 rw [show ((9:UInt8).toNat:Int)=9 from rfl] at e2
 rw [show ((10:UInt8).toNat:Int)=10 from rfl] at e3
 rw [show ((13:UInt8).toNat:Int)=13 from rfl] at e4
 rw [e1,e2,e3,e4,Bool.or_false,Bool.or_assoc,Bool.or_assoc]
theorem ah9 {c:UInt8}{n:UInt8}{i:Int}(hn:(n.toNat:Int)=i):((c.toNat:Int)=i)↔c=n:=⟨fun h=>UInt8.toNat_inj.mp (by omega),fun h=>by rw [h];exact hn⟩
theorem aY2 {f:Addr}{fd:FuncData}(F:Fun K "blanks_end" "blanks_end" X1 f fd)(T:Tk K mg CN):l6 prog w K mg base (cxX prog w) 1 f fd ["text","place"] (aF2 K):=by
 refine F.okX N1 (fun vs H Q E h=>?_) (fun cdv A outer s H vs Q E hr h=>?_)
 ·obtain ⟨G,a,b,p,rfl,_⟩:=h;rfl
 ·obtain ⟨G,_,b,p,rfl,sm,⟨a,rfl,ha⟩,hp,k⟩:=h
  have hu:=hr.units
  refine a0 _ (c6 (h9 (i:=2) N1.nd rfl (Or.inl rfl) aG2) (c6 (U3 C9 (j5 ar3 (pv 1) (w8 w9 (by rfl) T.len_ boot_len (b0 (pv 0) c9)) (j8 _))
   (c6 (h9 (i:=3) N1.nd rfl (Or.inl rfl) (m7 A9 (pv 0) (pv 1) (fun _ _=>rfl)))
   (M6 (q0 (j5 E0 (pv 3) (pgi T.hash_) (j8 _)) (d5 (h9 (i:=2) N1.nd rfl (Or.inl rfl) aG2)) j3)
   (M6 (q0 (j5 E0 (pv 3) (pgi T.line_) (j8 _)) (d5 (h9 (i:=2) N1.nd rfl (Or.inl rfl) aG2)) j3)
   (c6 (q0 (aB6 (aq6 (B7 (pv 2))) (ao0 (j5 ag3 (pv 3) (y1 (b0 g7 (b0 g7 (b0 g7 (b0 g7 c9))))) rfl))).pt (d5 bh9) j3)
   (d5 (aa3 (i:=1) N1.nd rfl (Or.inl rfl) g7 aN9)))))))
   (d5 (i4 (pv 1))))) ?_
  refine T9 (fun σ H'=>∃ (G':Hp) (i:Nat) (cm:Bool) (r:Option V),σ=[some (.ref a),some (.int (i:Int)),some (.bl cm),r]/\Ext [] G H G' H'/\i<=b.length/\i+Ma.C3 cm (b.drop i)=Ma.l4 b p) (fun σ _=>b.length - av7 1 σ) (l7 G p false none rfl (Ext.refl sm) hp rfl) ?_ (fun σ H Q Q' hq ⟨x,e,y,e2,p,ys,e3,h3,i,j,e4,e5,z,e6,h⟩=>(a0 x e (a0 y e2 (g6 p ys e3 h3 (g6 i j e4 e5 (a0 z e6 (hq _ _ h)))))))
  rintro σ H' ⟨G',i,cm,r,rfl,e0,hi,e⟩
  refine a0 _ rfl (a0 _ rfl (g6 a _ rfl (.inl (e0.sub.seq (e0.grow.seq ha))) (g6 _ _ rfl rfl (a0 _ rfl (y4 (fun h1=>?_) (fun h1=>?_))))))
  ·have hlt:i < b.length:=by rw [i3] at h1;omega
   rw [C5 hlt,aW2] at e
   refine a0 _ rfl (a0 _ rfl (j0 a _ _ _ rfl rfl (e0.sub.seq (e0.grow.seq ha)) (L5 hlt) ?_))
   generalize b[i]=c at e
   refine a0 (fun σ' H2=>H2=H'/\σ'=[some (.ref a),some (.int (i:Int)),some (.bl (if c=35 then true else cm)),some (.int (c.toNat:Int))]) ?_ ?_
   ·refine d8 _ rfl rfl (a0 _ rfl (K9 (fun h2=>?_) (fun h2=>?_)))
    ·rw [if_pos ((ah9 (n:=35) rfl).mp h2)];exact ⟨rfl,rfl⟩
    ·rw [if_neg (fun z=>h2 ((ah9 (n:=35) rfl).mpr z))];exact ⟨rfl,rfl⟩
   rintro σ' H2 ⟨rfl,rfl⟩
   refine a0 (fun σ' H3=>H3=H2/\σ'=[some (.ref a),some (.int (i:Int)),some (.bl (if c=10 then false else if c=35 then true else cm)),some (.int (c.toNat:Int))]) ?_ ?_
   ·refine d8 _ rfl rfl (a0 _ rfl (K9 (fun h2=>?_) (fun h2=>?_)))
    ·rw [if_pos ((ah9 (n:=10) rfl).mp h2)];exact ⟨rfl,rfl⟩
    ·rw [if_neg (fun z=>h2 ((ah9 (n:=10) rfl).mpr z))];exact ⟨rfl,rfl⟩
   rintro σ' H3 ⟨rfl,rfl⟩
   generalize (if c=10 then false else if c=35 then true else cm)=d at e
   refine a0 _ rfl (a0 _ rfl ?_)
   have go:∀ (G4 H4:Hp),Ext [] G H G4 H4->(!d && !Ma.ak0 c)=false->bN2 1 (tC (.int 1)) (ipI fun i j=>i+j) { nx:=fun σ' H'=>(∃ (G':Hp) (i:Nat) (cm:Bool) (r:Option V),σ'=[some (.ref a),some (.int (i:Int)),some (.bl cm),r]/\Ext [] G H G' H'/\i<=b.length/\i+Ma.C3 cm (b.drop i)=Ma.l4 b p)/\b.length - av7 1 σ' < b.length - i,rt:=Q } [some (.ref a),some (.int (i:Int)),some (.bl d),some (.int (c.toNat:Int))] H4:=by
    intro G4 H4 e4 hz
    refine a0 _ rfl (i5 _ _ rfl rfl (l7 G4 (i+1) d _ rfl e4 hlt ?_) ?_)
    ·rw [hz,if_neg (by decide)] at e
     rw [<-e,Nat.add_assoc]
    ·show b.length - ((i:Int)+1).toNat < b.length - i
     omega
   cases d with
   | true=>exact aj9 (go G' _ e0 rfl)
   | false =>
    refine ag8 (d8 _ rfl (by show 4<=sizeLine;decide) (fun t ht=>?_))
    have e1:=e0.lay ht (o:=.tup [.int 32,.int 9,.int 10,.int 13])
    refine C6 t _ rfl (.inr (.of c7)) rfl rfl (a0 _ rfl ?_)
    show if (!inV (.int (c.toNat:Int)) [.int 32,.int 9,.int 10,.int 13])=true then _ else _
    rw [bm2]
    cases hb:Ma.ak0 c with
    | true=>exact aj9 (go _ _ e1 (by rw [hb];rfl))
    | false =>
     rw [hb,if_pos (show (!false && !false)=true from rfl)] at e
     refine ag8 (a0 _ rfl ?_)
     have:=k _ _ e1
     rw [<-e] at this
     exact this
  ·have hge:b.length<=i:=by rw [i3] at h1;omega
   rw [List.drop_eq_nil_of_le hge] at e
   refine a0 _ rfl ?_
   have:=k _ _ e0
   rw [<-e] at this
   exact this
end
end Th
set_option maxHeartbeats 2000000
namespace Th
open PySem PySem.Spec PyProof.Rows L2
open Ln (Bytes)
open Ln.Text (isDigit natural isLetter isMark Tok tokenIn WORDS)
def GT (K:W.Frag)(mg:Str->Option Value)(x:Str)(xs:List V):Prop:=∃ a,mg x=some (.ref a)/\∀ H,SqT K H a xs
def GS (mg:Str->Option Value)(x:Str)(y:Str):Prop:=∃ t,mg x=some (.str y t)
theorem pgs {X:Cx}{x y:Str}{pos:Pos}(h:GS X.mg x y)(hg:Gl X x:=by rfl)(hd:(x == ("__debug__" : Str))=false:=by decide):PE X (.Name x pos) (tC (.str y)) :=
 let ⟨t,e⟩:=h;A6 hg e (j7 t rfl) hd
def WS:List String:=["after","clear","conic","curve","flat","glass","into","mirror","radius","start","stop","surface"]
theorem ao5:WORDS=WS.map Ln.ascii:=rfl
def aA0 (b:Bytes):Str:=⟨(Ma.Q9 b).toArray⟩
theorem bc4:∀ s∈WS,(Str.ofString s)=aA0 (Ln.ascii s):=by decide +kernel
theorem bc3:∀ s∈WS,(Ln.ascii s).length<=32:=by decide +kernel
structure Tl (K:W.Frag)(mg:Str->Option Value)(CN:Addr):Prop extends Tk K mg CN where
 words_:GT K mg "WORDS" (WS.map fun s=>V.str (Str.ofString s))
 marks_:GS mg "MARKS" ":,;/-"
theorem bf0 (b:Bytes):(aA0 b).cps.toList=Ma.Q9 b:=by unfold aA0;simp
theorem af7 (b:Bytes):sgn (aA0 b)=b.map fun (c:UInt8)=>V.str ⟨#[c.toNat]⟩:=by
 unfold sgn
 rw [bf0]
 unfold Ma.Q9
 rw [List.map_map];rfl
section
variable {w:World}{K:W.Frag}{mg:Str->Option Value}{base:Heap}{CN:Addr}
def aV3 (b:Bytes):Str:=if b∈WORDS then aA0 b else "name"
def bf2 (K:W.Frag):Sp:=fun vs H Q _=>∃ (G:Hp) (a:V) (b:Bytes),vs=[a]/\j6 G H/\Bs K G a b/\∀ G' H',Ext [] G H G' H'->Q (.str (aV3 b)) H'
theorem aA4:g9 ["piece","word","sign"] ["piece"] (d7 J0):=⟨rfl,rfl,rfl,by decide +kernel,rfl,by decide +kernel,by decide +kernel⟩
theorem bG1 {f:Addr}{fd:FuncData}(F:Fun K "word_or_name" "word_or_name" J0 f fd)(T:Tl K mg CN):l6 prog w K mg base (cxX prog w) 1 f fd ["piece"] (bf2 K):=by
 refine F.okX aA4 (fun vs H Q E h=>?_) (fun cdv A outer s H vs Q E hr h=>?_)
 ·obtain ⟨G,a,b,rfl,_⟩:=h;rfl
 ·obtain ⟨G,_,b,rfl,sm,⟨a,rfl,ha⟩,k⟩:=h
  have hu:=hr.units
  obtain ⟨aW,hmW,hW⟩:=T.words_
  refine a0 _ (c6 (O8 C9 rfl (bi0 (A6 (v:=.ref aW) rfl hmW rfl)) (B6 (i:=1) aA4.nd rfl (Or.inl rfl)) (d5 (q0 (j5 (ar4 hu) (pv 0)
   (bP2 (own:=[("sign",2)]) rfl aA4.nd (aM8 (pv 1)) (ai0 (show bb0 ["piece","word","sign"] (d7 J0) _ _=true by decide +kernel)) (fun _ _ _ _ _=>B6 (i:=2) aA4.nd rfl (Or.inl rfl)) (fun _ _ _ _ _=>ao1) (fun _ _ _ _ _=>w8 at5 (by rfl) T.ord_ boot_ord (b0 (pv 2) c9))) (j8 _))
   (d5 (i4 (pv 1))) j3))) (d5 (i4 i9))) ?_
  refine d8 aW rfl (j7 _ (hW _)) (aT5 (K:=K) (a:=aW) (xs:=WS.map fun s=>V.str (Str.ofString s)) (fun i σ H'=>∃ (G':Hp) (r1 r2:Option V),σ=[some (.ref a),r1,r2]/\Ext [] G H G' H'/\b∉(WORDS.take i)) (Z2 G none none rfl (Ext.refl sm) (by simp)) (fun i σ H' _ _=>hW _) ?_ ?_)
  ·rintro i y σ H' hy ⟨G',r1,r2,rfl,e0,hn⟩
   rw [List.getElem?_map] at hy
   obtain ⟨x,hx,rfl⟩:∃ x,WS[i]?=some x/\y=V.str (Str.ofString x):=by
    cases q:WS[i]? with
    | none=>rw [q] at hy;cases hy
    | some x=>rw [q] at hy;exact a0 x rfl ((Option.some.inj hy).symm)
   have hm:x∈WS:=List.mem_of_getElem? hx
   have hc:=bc4 x hm
   have hsmall:=bc3 x hm
   rw [hc]
   generalize hz:Ln.ascii x=z at hsmall
   refine a0 _ rfl (a0 _ rfl (a0 _ rfl (fun D hD=>?_)))
   refine bl2 (x:=aA0 z) (fun i Hc=>Hc=upd H' D (.lst ((y6 (z.take i)).map V.int))) rfl ?_ ?_
   ·rintro j v Hc hv rfl
    rw [af7,List.getElem?_map] at hv
    obtain ⟨c,hcc,rfl⟩:∃ c,z[j]?=some c/\v=V.str ⟨#[c.toNat]⟩:=by
     cases q:z[j]? with
     | none=>rw [q] at hv;cases hv
     | some x=>rw [q] at hv;exact a0 x rfl ((Option.some.inj hv).symm)
    obtain ⟨hj,hjc⟩:=List.getElem?_eq_some_iff.mp hcc
    refine ⟨rfl,a0 _ rfl (d8 _ rfl rfl (d8 _ c7 ?_ ?_))⟩
    ·rw [List.length_map]
     have:(y6 (z.take j)).length<=32:=by unfold y6;rw [List.length_map,List.length_take];omega
     exact Nat.lt_of_le_of_lt this (by decide)
    ·rw [A5,ad5 hj,hjc]
     unfold y6
     rw [List.map_append,List.map_append];rfl
   ·rintro Hc rfl
    have e1:z.take (sgn (aA0 z)).length=z:=by rw [af7,List.length_map];exact List.take_length
    rw [e1]
    have E1:=e0.lend hD (o:=.lst ((y6 z).map V.int))
    refine j0 a D (y6 b) (y6 z) rfl rfl (by have q:=E1.sub.seq (E1.grow.seq ha);rw [F9 b] at q;exact q) (.of c7) (a0 _ rfl (y4 (fun h1=>?_) (fun h1=>?_)))
    ·have hbz:b=z:=U9 h1
     refine a0 _ rfl ?_
     have kk:=k _ _ E1
     have:b∈WORDS:=by rw [hbz,<-hz,ao5];exact List.mem_map.mpr (a0 x hm rfl)
     unfold aV3 at kk
     rw [if_pos this,hbz] at kk
     exact kk
    ·refine Z2 G' _ _ rfl E1 ?_
     have ht:WORDS.take (i+1)=WORDS.take i++[z]:=by
      rw [List.take_add_one,ao5,List.getElem?_map,hx]
      show _++[Ln.ascii x]=_
      rw [hz]
     rw [ht]
     intro hmem
     rcases List.mem_append.mp hmem with q | q
     ·exact hn q
     ·exact h1 (by rw [List.mem_singleton.mp q])
  ·rintro σ H' ⟨G',r1,r2,rfl,e0,hn⟩
   have kk:=k _ _ e0
   unfold aV3 at kk
   have hl:WORDS.take (WS.map fun s=>V.str (Str.ofString s)).length=WORDS:=by rw [List.length_map];exact List.take_of_length_le (by rw [ao5,List.length_map];exact Nat.le_refl _)
   rw [hl] at hn
   rw [if_neg hn] at kk
   exact kk
end
end Th
set_option maxHeartbeats 2000000
namespace Th
open PySem PySem.Spec PyProof.Rows L2
open Ln (Bytes)
open Ln.Text (isDigit natural isLetter isMark Tok tokenIn numberIn WORDS NAME)
def kdS:Ln.Text.Tok->Str
 | .word w=>aA0 w
 | .name _=>"name"
 | .num _ _ false=>"whole"
 | .num _ _ true=>"pointed"
 | .mark c=>⟨#[c.toNat]⟩
 | .end_=>"end"
 | .broken=>"none"
def TkV (K:W.Frag)(G:Hp)(v:V)(k:Str)(s e:Nat):Prop:=∃ p,v=.ref p/\SqT K G p [.str k,.int (s:Int),.int (e:Int)]
def twg (b:Bytes):Nat:=(b.takeWhile C0).length
theorem bp4 {b:List UInt8}{i:Nat}(h:i < b.length)(hd:C0 b[i]=true):i+1+twg (b.drop (i+1))=i+twg (b.drop i):=by
 rw [C5 h]
 unfold twg
 rw [List.takeWhile_cons,hd,if_pos rfl,List.length_cons]
 rw [Nat.add_assoc,Nat.add_comm 1]
theorem bd0 {b:List UInt8}{i:Nat}(h:i < b.length)(hd:C0 b[i]=false):twg (b.drop i)=0:=by
 rw [C5 h]
 unfold twg
 rw [List.takeWhile_cons,hd,if_neg (by decide)];rfl
theorem ao9 {c:Bytes}{x:UInt8}{r:Bytes}(hc:c=x::r)(h:isLetter x=true):tokenIn c=if 32 < twg c then (.broken,0) else if WORDS.contains (c.takeWhile C0)=true then (.word (c.takeWhile C0),twg c) else (.name (c.takeWhile C0),twg c):=by
 subst hc
 simp only [tokenIn,h,if_true]
 rfl
section
variable {w:World}{K:W.Frag}{mg:Str->Option Value}{base:Heap}{CN:Addr}
def an5 (K:W.Frag)(C:UInt8->Prop):Sp:=fun vs H Q _=>∃ (G:Hp) (a:V) (b:Bytes) (s:Nat) (hs:s < b.length),vs=[a,.int (s:Int)]/\j6 G H/\Bs K G a b/\C b[s]/\∀ v G' H',Ext [] G H G' H'->TkV K G' v (kdS (tokenIn (b.drop s)).1) s (s+(tokenIn (b.drop s)).2)->Q v H'
theorem aB1:g9 ["text","start","end"] ["text","start"] (d7 W8):=⟨rfl,rfl,rfl,by decide +kernel,rfl,by decide +kernel,by decide +kernel⟩
theorem bu5 {f:Addr}{fd:FuncData}(F:Fun K "name_token" "name_token" W8 f fd)(T:Tl K mg CN)(Dg:Def prog w K mg base 2 "goes_on_name" ["byte"] aL8)(Dw:Def prog w K mg base 1 "word_or_name" ["piece"] (bf2 K)):l6 prog w K mg base (cxX prog w) 3 f fd ["text","start"] (an5 K fun c=>isLetter c=true):=by
 refine F.okX aB1 (fun vs H Q E h=>?_) (fun cdv A outer s H vs Q E hr h=>?_)
 ·obtain ⟨G,a,b,p,_,rfl,_⟩:=h;rfl
 ·obtain ⟨G,_,b,p,hp,rfl,sm,⟨a,rfl,ha⟩,hc,k⟩:=h
  have hr1:=hr.mono (show 1<=2 by decide)
  refine a0 _ (c6 (h9 (i:=2) aB1.nd rfl (Or.inl rfl) (pv 1)) (c6 (U3 C9 (aB6 (j5 ar3 (pv 2) (w8 w9 (by rfl) T.len_ boot_len (b0 (pv 0) c9)) (j8 _)) (ao0 (B7 (d9 Dg hr d4 (b0 (m7 A9 (pv 0) (pv 2) (fun _ _=>rfl)) c9))))).pt
   (d5 (aa3 (i:=2) aB1.nd rfl (Or.inl rfl) g7 aN9)))
   (c6 (q0 (j5 al4 (i6 T5 (pv 2) (pv 1)) (pgi T.mname_) (j8 _)) (d5 (i4 (y1 (b0 i9 (b0 (pv 1) (b0 (pv 1) c9)))))) j3)
   (d5 (i4 (y1 (b0 (d9 Dw hr1 d4 (b0 (E9 L0 (pv 0) (D5 (pv 1)) (D5 (pv 2))) c9)) (b0 (pv 1) (b0 (pv 2) c9))))))))) ?_
  refine a0 _ rfl ?_
  rw [ao9 (C5 hp) hc] at k
  have hle:p+twg (b.drop p)<=b.length:=by
   have:((b.drop p).takeWhile C0).length<=(b.drop p).length:=(List.takeWhile_prefix _).length_le
   rw [List.length_drop] at this
   unfold twg;omega
  have fin:bN0 (bz4 (tOp (rI0 fun i j=>.bl (decide (i > j))) (tOp (rI0 fun i j=>.int (i - j)) (J9 2) (J9 1)) (tC (.int 32)))) (aV9 (be1 (F8 (tC (.str "none")) (F8 (J9 1) (F8 (J9 1) am7))))) bz5
    { nx:=(aV9 (be1 (F8 (be5 (bf2 K) [] E (F8 (tSl (bP0 K) (J9 0) (be2 (J9 1)) (be2 (J9 2))) am7)) (F8 (J9 1) (F8 (J9 2) am7))))) { nx:=fun _ H'=>Q .non H',rt:=Q },rt:=Q } [some (.ref a),some (.int (p:Int)),some (.int ((p+twg (b.drop p):Nat):Int))] H:=by
   refine a0 _ rfl (a0 _ rfl (g6 _ _ rfl rfl (g6 _ _ rfl rfl (a0 _ rfl (y4 (fun h1=>?_) (fun h1=>?_))))))
   ·have h1':32 < twg (b.drop p):=by omega
    rw [if_pos h1'] at k
    refine a0 _ rfl (d8 _ rfl (by show 3<=sizeLine;decide) (fun l hl=>?_))
    exact k _ _ _ ((Ext.refl sm).lay hl) (a0 l rfl (.of c7))
   ·have h1':¬ 32 < twg (b.drop p):=by omega
    rw [if_neg h1'] at k
    refine a0 _ rfl (a0 _ rfl (a0 _ rfl (a0 _ rfl (a0 _ rfl (g6 a _ rfl (sm.seq ha) (fun q hq=>?_))))))
    have ec:Q0 (h8 b) (some (p:Int)) (some ((p+twg (b.drop p):Nat):Int))=h8 ((b.drop p).takeWhile C0):=by
     rw [ak2 b p _ (Nat.le_of_lt hp) hle,Nat.add_sub_cancel_left]
     unfold twg
     rw [Ma.V4]
    rw [ec]
    have E1:=(Ext.refl (M:=[]) sm).lay hq (o:=.lst (h8 ((b.drop p).takeWhile C0)))
    refine j4 _ _ _ rfl E1.sub (a0 q rfl (.of c7)) (fun G2 H2 E2=>?_)
    refine a0 _ rfl (d8 _ rfl (by show 3<=sizeLine;decide) (fun l hl=>?_))
    have E3:=(E1.trans E2).lay hl (o:=.tup [.str (aV3 ((b.drop p).takeWhile C0)),.int (p:Int),.int ((p+twg (b.drop p):Nat):Int)])
    have kk:=k (.ref l) _ _ E3
    by_cases hw:(b.drop p).takeWhile C0∈WORDS
    ·rw [if_pos (List.contains_iff_mem.mpr hw)] at kk
     refine kk (a0 l rfl (.of ?_))
     rw [c7]
     unfold aV3
     rw [if_pos hw];rfl
    ·rw [if_neg (fun z=>hw (List.contains_iff_mem.mp z))] at kk
     refine kk (a0 l rfl (.of ?_))
     rw [c7]
     unfold aV3
     rw [if_neg hw];rfl
  refine T9 (fun σ H'=>H'=H/\∃ i:Nat,σ=[some (.ref a),some (.int (p:Int)),some (.int (i:Int))]/\i+twg (b.drop i)=p+twg (b.drop p)) (fun σ _=>b.length - av7 2 σ) ⟨rfl,a0 p rfl rfl⟩ ?_ ?_
  ·rintro σ H' ⟨rfl,i,rfl,e⟩
   refine a0 _ rfl (a0 _ rfl (g6 a _ rfl (.inl (sm.seq ha)) (g6 _ _ rfl rfl (a0 _ rfl (y4 (fun h1=>?_) (fun h1=>?_))))))
   ·have hi:i < b.length:=by rw [i3] at h1;omega
    refine a0 _ rfl (a0 _ rfl (j0 a _ _ _ rfl rfl (sm.seq ha) (L5 hi) (a0 (b[i]) rfl (a0 _ rfl (K0 (fun h2=>?_) (fun h2=>?_))))))
    ·refine a0 _ rfl (i5 _ _ rfl rfl ⟨rfl,a0 (i+1) rfl ?_⟩ ?_)
     ·rw [bp4 hi h2];exact e
     ·show b.length - ((i:Int)+1).toNat < b.length - ((i:Int)).toNat
      omega
    ·rw [bd0 hi h2] at e
     have e':i=p+twg (b.drop p):=e
     subst e'
     exact fin
   ·refine aj9 ?_
    have hi:b.length<=i:=by rw [i3] at h1;omega
    rw [List.drop_eq_nil_of_le hi] at e
    have e':i=p+twg (b.drop p):=e
    subst e'
    exact fin
  ·rintro σ H Q Q' hq ⟨x,e,y,e2,p,ys,e3,h3,i,j,e4,e5,z,e6,h⟩
   refine a0 x e (a0 y e2 (g6 p ys e3 h3 (g6 i j e4 e5 (a0 z e6 ?_))))
   cases z with
   | false=>rw [if_neg (by decide)] at h ⊢;exact hq _ _ h
   | true =>
    rw [if_pos rfl] at h ⊢
    obtain ⟨x1,f1,x2,f2,g1,g2,g3,g4,f3,f4,f5,f6,c,f7,u,f8,h⟩:=h
    exact a0 x1 f1 (a0 x2 f2 (j0 g1 g2 g3 g4 f3 f4 f5 f6 (a0 c f7 (a0 u f8 (hq _ _ h)))))
end
end Th
set_option maxHeartbeats 2000000
namespace Th
open PySem PySem.Spec PyProof.Rows L2
open Ln (Bytes)
open Ln.Text (isDigit natural isLetter isMark tokenIn numberIn WORDS NAME)
section
variable {w:World}{K:W.Frag}{mg:Str->Option Value}{base:Heap}{CN:Addr}
def aP1 (b:Bytes)(p:Nat):Bool:=(b.drop p).head?.any fun c=>C0 c || c == 46
def bg1 (K:W.Frag):Sp:=fun vs H Q _=>∃ (G:Hp) (a:V) (b:Bytes) (p:Nat),vs=[a,.int (p:Int)]/\j6 G H/\Bs K G a b/\Q (.bl (aP1 b p)) H
theorem br7:g9 ["text","place"] ["text","place"] (d7 S3):=⟨rfl,rfl,rfl,by decide +kernel,rfl,by decide +kernel,by decide +kernel⟩
theorem by7 {b:Bytes}{p:Nat}(h:p < b.length):aP1 b p=(C0 b[p] || b[p] == 46):=by
 unfold aP1
 rw [C5 h];rfl
theorem bo2 {b:Bytes}{p:Nat}(h:b.length<=p):aP1 b p=false:=by
 unfold aP1
 rw [List.drop_eq_nil_of_le h];rfl
theorem bu8 {f:Addr}{fd:FuncData}(F:Fun K "bars_number" "bars_number" S3 f fd)(T:Tl K mg CN)(Dg:Def prog w K mg base 2 "goes_on_name" ["byte"] aL8):l6 prog w K mg base (cxX prog w) 3 f fd ["text","place"] (bg1 K):=by
 refine F.okX br7 (fun vs H Q E h=>?_) (fun cdv A outer s H vs Q E hr h=>?_)
 ·obtain ⟨G,a,b,p,rfl,_⟩:=h;rfl
 ·obtain ⟨G,_,b,p,rfl,sm,⟨a,rfl,ha⟩,k⟩:=h
  refine a0 _ (d5 (i4 (bF5 (Q6 ar3 (pv 1) (w8 w9 (by rfl) T.len_ boot_len (b0 (pv 0) c9)) (j8 _)) (aB8 (aS2 (d9 Dg hr d4 (b0 (m7 A9 (pv 0) (pv 1) (fun _ _=>rfl)) c9)) (aB8 (Q6 E0 (m7 A9 (pv 0) (pv 1) (fun _ _=>rfl)) (pgi T.point_) (j8 _)))))))) ?_
  refine a0 _ rfl (a0 _ rfl (g6 a _ rfl (.inl (sm.seq ha)) (g6 _ _ rfl rfl (a0 _ rfl (y4 (fun h1=>?_) (fun h1=>?_))))))
  ·have hp:p < b.length:=by rw [i3] at h1;omega
   rw [by7 hp] at k
   refine a0 _ rfl (a0 _ rfl (j0 a _ _ _ rfl rfl (sm.seq ha) (L5 hp) (a0 (b[p]) rfl (a0 _ rfl (K0 (fun h2=>?_) (fun h2=>?_))))))
   ·rw [h2] at k;exact k
   ·rw [h2,Bool.false_or] at k
    refine a0 _ rfl (a0 _ rfl (l0 a _ _ _ rfl rfl (sm.seq ha) (L5 hp) rfl ?_))
    have e:decide (V.int ((b[p].toNat:Nat):Int)=V.int 46)=(b[p] == 46):=by
     by_cases h:b[p]=46
     ·rw [h];rfl
     ·have:¬ V.int ((b[p].toNat:Nat):Int)=V.int 46:=fun z=>h ((ah9 (n:=46) rfl).mp (V.int.inj z))
      rw [decide_eq_false this,beq_eq_false_iff_ne.mpr h]
    rw [e];exact k
  ·rw [bo2 (by rw [i3] at h1;omega)] at k
   exact k
theorem Q5:g9 ["text","start","middle","kind","end","count"] ["text","start"] (d7 O0):=⟨rfl,rfl,rfl,by decide +kernel,rfl,by decide +kernel,by decide +kernel⟩
theorem ad2 {c:Bytes}:∀ x,(c.drop (c.takeWhile isDigit).length).head?=some x->isDigit x=false:=by
 induction c with
 | nil=>intro x h;cases h
 | cons a c ih =>
  intro x h
  cases hd:isDigit a with
  | true =>
   rw [List.takeWhile_cons,hd,if_pos rfl,List.length_cons,List.drop_succ_cons] at h
   exact ih x h
  | false =>
   rw [List.takeWhile_cons,hd,if_neg (by decide)] at h
   cases h;exact hd
theorem bo5 {o:Option UInt8}(h:∀ x,o=some x->isDigit x=false):(o.any fun c=>C0 c || c == 46)=o.any fun (c:UInt8)=>isLetter c || c == 46:=by
 cases o with
 | none=>rfl
 | some x =>
  show (C0 x || x == 46)=(isLetter x || x == 46)
  unfold C0
  rw [h x rfl,Bool.or_false]
theorem bV3 (b:Bytes)(m:Nat)(h:m<=b.length):Q0 (h8 b) (some (m:Int)) (some ((m:Int)+1))=h8 ((b.drop m).take 1):=by
 by_cases h1:m+1<=b.length
 ·have:=ak2 b m (m+1) h h1
  rw [Nat.add_sub_cancel_left] at this
  exact this
 ·rw [List.drop_eq_nil_of_le (by omega:b.length<=m)]
  unfold Q0
  rw [i3,HT.sIx_nat,Nat.min_eq_left h,List.drop_eq_nil_of_le (by rw [i3];omega)]
  simp [h8]
theorem aP9 {c:Bytes}{x:UInt8}{r:Bytes}(hc:c=x::r)(h0:isLetter x=false)(h:isDigit x=true):tokenIn c=numberIn c:=by
 subst hc
 simp only [tokenIn,h0,h,if_true];rfl
theorem bu4 {f:Addr}{fd:FuncData}(F:Fun K "number_token" "number_token" O0 f fd)(T:Tl K mg CN)(De:Def prog w K mg base 2 "digits_end" ["text","place"] (ap8 K))(Db:Def prog w K mg base 3 "bars_number" ["text","place"] (bg1 K)):l6 prog w K mg base (cxX prog w) 4 f fd ["text","start"] (an5 K fun c=>isLetter c=false/\isDigit c=true):=by
 refine F.okX Q5 (fun vs H Q E h=>?_) (fun cdv A outer s H vs Q E hr h=>?_)
 ·obtain ⟨G,a,b,p,_,rfl,_⟩:=h;rfl
 ·obtain ⟨G,_,b,p,hp,rfl,sm,⟨a,rfl,ha⟩,⟨hc0,hc⟩,k⟩:=h
  have hr2:=hr.mono (show 2<=3 by decide)
  have hu:=hr.units
  refine a0 _ (c6 (h9 (i:=2) Q5.nd rfl (Or.inl rfl) (d9 De hr2 d4 (b0 (pv 0) (b0 (pv 1) c9))))
   (c6 (h9 (i:=3) Q5.nd rfl (Or.inl rfl) i9) (c6 (h9 (i:=4) Q5.nd rfl (Or.inl rfl) (pv 2)) (c6 (h9 (i:=5) Q5.nd rfl (Or.inl rfl) (i6 T5 (pv 2) (pv 1)))
   (M6 (q0 (j5 (ar4 hu) (E9 L0 (pv 0) (D5 (pv 2)) (D5 (i6 J3 (pv 2) g7))) (B2 (b0 (pgi T.point_) c9)) (j8 _))
    (c6 (h9 (i:=3) Q5.nd rfl (Or.inl rfl) i9) (c6 (h9 (i:=4) Q5.nd rfl (Or.inl rfl) (d9 De hr2 d4 (b0 (pv 0) (b0 (i6 J3 (pv 2) g7) c9)))) (d5 (h9 (i:=5) Q5.nd rfl (Or.inl rfl) (i6 T5 (i6 T5 (pv 4) (pv 1)) g7))))) j3)
   (c6 (q0 (aw4 (j5 E0 (pv 4) (i6 J3 (pv 2) g7) (j8 _)) (aw4 (j5 al4 (pv 5) (pgi T.mdig_) (j8 _)) (aq5 (B7 (d9 Db hr d4 (b0 (pv 0) (b0 (pv 4) c9))))))).pt
    (d5 (i4 (y1 (b0 i9 (b0 (pv 1) (b0 (pv 1) c9)))))) j3)
   (d5 (i4 (y1 (b0 (pv 3) (b0 (pv 1) (b0 (pv 4) c9)))))))))))) ?_
  rw [aP9 (C5 hp) hc0 hc,Ma.D0] at k
  have hA:twd (b.drop p)=(Ma.nA (b.drop p)).length:=rfl
  have hle:p+(Ma.nA (b.drop p)).length<=b.length:=by
   have:((b.drop p).takeWhile isDigit).length<=(b.drop p).length:=(List.takeWhile_prefix _).length_le
   rw [List.length_drop] at this
   have q:(Ma.nA (b.drop p)).length=((b.drop p).takeWhile isDigit).length:=rfl
   omega
  have hR:b.drop (p+(Ma.nA (b.drop p)).length)=Ma.nR (b.drop p):=by
   show _=(b.drop p).drop _
   rw [List.drop_drop]
  refine a0 _ rfl (a0 _ rfl (l7 G _ b p rfl sm (a0 a rfl ha) ?_))
  rw [hA]
  refine a0 _ rfl (a0 _ rfl (a0 _ rfl (g6 _ _ rfl rfl ?_)))
  refine a0 (fun σ' H'=>∃ G',Ext [] G H G' H'/\σ'=[some (.ref a),some (.int (p:Int)),some (.int ((p+(Ma.nA (b.drop p)).length:Nat):Int)),some (.str (if Ma.nP (b.drop p)=true then "pointed" else "whole")),some (.int ((p+Ma.nN (b.drop p):Nat):Int)),some (.int (((Ma.nA (b.drop p)).length+(Ma.nZ (b.drop p)).length:Nat):Int))]) ?_ ?_
  ·refine a0 _ rfl (a0 _ rfl (a0 _ rfl (a0 _ rfl (g6 _ _ rfl rfl (a0 _ rfl (g6 a _ rfl (sm.seq ha) (fun q hq=>?_)))))))
   have ec:Q0 (h8 b) (some ((p+(Ma.nA (b.drop p)).length:Nat):Int)) (some (((p+(Ma.nA (b.drop p)).length:Nat):Int)+1))=h8 ((Ma.nR (b.drop p)).take 1):=by
    rw [<-hR]
    exact bV3 b _ hle
   rw [ec]
   have E1:=(Ext.refl (M:=[]) sm).lay hq (o:=.lst (h8 ((Ma.nR (b.drop p)).take 1)))
   refine ⟨(by show 1<=sizeLine;decide),fun l hl=>?_⟩
   have E2:=E1.lay hl (o:=.lst [.int 46])
   have hql:q≠l:=i0 (c7 (H:=H) (a:=q)) hl
   refine j0 q l (y6 ((Ma.nR (b.drop p)).take 1)) ([46]) rfl rfl (by rw [<-F9];exact .of (by rw [d6 hql,c7])) (.of c7) (a0 _ rfl (y4 (fun h1=>?_) (fun h1=>?_)))
   ·have h1':(Ma.nR (b.drop p)).take 1=[46]:=U9 (show y6 ((Ma.nR (b.drop p)).take 1)=y6 [46] from h1)
    obtain ⟨r,hr'⟩:∃ r,Ma.nR (b.drop p)=46::r:=by
     cases z:Ma.nR (b.drop p) with
     | nil=>rw [z] at h1';cases h1'
     | cons x r=>rw [z] at h1';cases h1';exact j7 r rfl
    have hP:Ma.nP (b.drop p)=true:=by
     show ((Ma.nR (b.drop p)).head? == some 46)=true
     rw [hr'];rfl
    have hZ:Ma.nZ (b.drop p)=r.takeWhile isDigit:=by
     have:Ma.nZ (b.drop p)=if Ma.nP (b.drop p)=true then ((Ma.nR (b.drop p)).drop 1).takeWhile isDigit else []:=rfl
     rw [this,if_pos hP,hr'];rfl
    have hd1:b.drop (p+(Ma.nA (b.drop p)).length+1)=r:=by
     have:b.drop (p+(Ma.nA (b.drop p)).length+1)=(b.drop (p+(Ma.nA (b.drop p)).length)).drop 1:=by rw [List.drop_drop]
     rw [this,hR,hr'];rfl
    have hN:Ma.nN (b.drop p)=(Ma.nA (b.drop p)).length+(1+(Ma.nZ (b.drop p)).length):=by
     have:Ma.nN (b.drop p)=(Ma.nA (b.drop p)).length+(if Ma.nP (b.drop p)=true then 1+(Ma.nZ (b.drop p)).length else 0):=rfl
     rw [this,if_pos hP]
    refine a0 _ rfl (a0 _ rfl (g6 _ _ rfl rfl (l7 _ _ b (p+(Ma.nA (b.drop p)).length+1) rfl E2.sub (a0 a rfl (E2.grow.seq ha)) ?_)))
    rw [hd1]
    have hE:p+(Ma.nA (b.drop p)).length+1+twd r=p+Ma.nN (b.drop p):=by
     rw [hN,hZ];unfold twd;omega
    rw [hE]
    refine a0 _ rfl (a0 _ rfl (g6 _ _ rfl rfl (g6 _ _ rfl rfl (a0 _ E2 ?_))))
    rw [if_pos hP]
    have hC:((p+Ma.nN (b.drop p):Nat):Int) - (p:Int) - 1=(((Ma.nA (b.drop p)).length+(Ma.nZ (b.drop p)).length:Nat):Int):=by rw [hN];omega
    rw [<-hC];rfl
   ·have hP:Ma.nP (b.drop p)=false:=by
     cases z:Ma.nP (b.drop p) with
     | false=>rfl
     | true =>
      exfalso
      have q:(Ma.nR (b.drop p)).head?=some 46:=eq_of_beq z
      apply h1
      cases z2:Ma.nR (b.drop p) with
      | nil=>rw [z2] at q;cases q
      | cons x r=>rw [z2] at q;cases q;rfl
    have hZ:Ma.nZ (b.drop p)=[]:=by
     have:Ma.nZ (b.drop p)=if Ma.nP (b.drop p)=true then ((Ma.nR (b.drop p)).drop 1).takeWhile isDigit else []:=rfl
     rw [this,if_neg (by rw [hP];decide)]
    have hN:Ma.nN (b.drop p)=(Ma.nA (b.drop p)).length:=by
     have:Ma.nN (b.drop p)=(Ma.nA (b.drop p)).length+(if Ma.nP (b.drop p)=true then 1+(Ma.nZ (b.drop p)).length else 0):=rfl
     rw [this,if_neg (by rw [hP];decide)];rfl
    refine a0 _ E2 ?_
    rw [if_neg (by rw [hP];decide),hN,hZ]
    have hC:((p+(Ma.nA (b.drop p)).length:Nat):Int) - (p:Int)=(((Ma.nA (b.drop p)).length+([]:Bytes).length:Nat):Int):=by
     rw [List.length_nil];omega
    rw [<-hC];rfl
  ·rintro σ' H' ⟨G',e0,rfl⟩
   have hNn:p+Ma.nN (b.drop p)<=b.length:=by
    have:=Ma.bB1 (b.drop p)
    rw [List.length_drop] at this;omega
   have hbar:aP1 b (p+Ma.nN (b.drop p))=(((b.drop p).drop (Ma.nN (b.drop p))).head?.any fun (c:UInt8)=>isLetter c || c == 46):=by
    unfold aP1
    rw [List.drop_drop]
    refine bo5 fun x hx=>?_
    rw [<-List.drop_drop] at hx
    cases hP:Ma.nP (b.drop p) with
    | false =>
     have hN:Ma.nN (b.drop p)=((b.drop p).takeWhile isDigit).length:=by
      have:Ma.nN (b.drop p)=(Ma.nA (b.drop p)).length+(if Ma.nP (b.drop p)=true then 1+(Ma.nZ (b.drop p)).length else 0):=rfl
      rw [this,if_neg (by rw [hP];decide)];rfl
     rw [hN] at hx
     exact ad2 x hx
    | true =>
     have hZ:Ma.nZ (b.drop p)=((Ma.nR (b.drop p)).drop 1).takeWhile isDigit:=by
      have:Ma.nZ (b.drop p)=if Ma.nP (b.drop p)=true then ((Ma.nR (b.drop p)).drop 1).takeWhile isDigit else []:=rfl
      rw [this,if_pos hP]
     have hN:Ma.nN (b.drop p)=(Ma.nA (b.drop p)).length+(1+(Ma.nZ (b.drop p)).length):=by
      have:Ma.nN (b.drop p)=(Ma.nA (b.drop p)).length+(if Ma.nP (b.drop p)=true then 1+(Ma.nZ (b.drop p)).length else 0):=rfl
      rw [this,if_pos hP]
     rw [hN,<-List.drop_drop,<-List.drop_drop,hZ] at hx
     exact ad2 x hx
   have bad:∀ H2 G2,Ext [] G H G2 H2->¬ Ma.nOk (b.drop p)->aV9 (be1 (F8 (tC (.str "none")) (F8 (J9 1) (F8 (J9 1) am7)))) { nx:=(aV9 (be1 (F8 (J9 3) (F8 (J9 1) (F8 (J9 4) am7))))) { nx:=fun _ H'=>Q .non H',rt:=Q },rt:=Q } [some (.ref a),some (.int (p:Int)),some (.int ((p+(Ma.nA (b.drop p)).length:Nat):Int)),some (.str (if Ma.nP (b.drop p)=true then "pointed" else "whole")),some (.int ((p+Ma.nN (b.drop p):Nat):Int)),some (.int (((Ma.nA (b.drop p)).length+(Ma.nZ (b.drop p)).length:Nat):Int))] H2:=by
    intro H2 G2 e2 hn
    rw [if_neg hn] at k
    refine a0 _ rfl (d8 _ rfl (by show 3<=sizeLine;decide) (fun l hl=>?_))
    exact k _ _ _ (e2.lay hl) (a0 l rfl (.of c7))
   refine a0 _ rfl (a0 _ rfl (i5 _ _ rfl rfl rfl (a0 _ rfl (K9 (fun h1=>?_) (fun h1=>?_)))))
   ·refine ag8 (bad _ _ e0 fun ho=>?_)
    have:Ma.nN (b.drop p)=(Ma.nA (b.drop p)).length+(if Ma.nP (b.drop p)=true then 1+(Ma.nZ (b.drop p)).length else 0):=rfl
    rcases ho.2.2 with z | z
    ·rw [if_neg (by rw [z];decide)] at this;omega
    ·cases hP:Ma.nP (b.drop p) with
     | false=>rw [if_neg (by rw [hP];decide)] at this;omega
     | true =>
      rw [if_pos hP] at this
      exact z (List.length_eq_zero_iff.mp (by omega))
   ·refine a0 _ rfl (g6 _ _ rfl rfl (a0 _ rfl (y4 (fun h2=>?_) (fun h2=>?_))))
    ·refine ag8 (bad _ _ e0 fun ho=>?_)
     have:=ho.2.1
     unfold Ln.Text.DIGITS at this
     omega
    ·refine a0 _ rfl (a0 _ rfl (l7 G' _ b _ rfl e0.sub (a0 a rfl (e0.grow.seq ha)) (a0 _ rfl (K0 (fun h3=>?_) (fun h3=>?_)))))
     ·refine bad _ _ e0 fun ho=>?_
      have:=ho.1
      rw [hbar] at h3
      rw [h3] at this;cases this
     ·have ho:Ma.nOk (b.drop p):=by
       refine ⟨?_,?_,?_⟩
       ·rw [hbar] at h3;rw [h3];rfl
       ·unfold Ln.Text.DIGITS;omega
       ·cases hP:Ma.nP (b.drop p) with
        | false=>exact .inl rfl
        | true =>
         refine .inr fun z=>h1 ?_
         have:Ma.nN (b.drop p)=(Ma.nA (b.drop p)).length+(if Ma.nP (b.drop p)=true then 1+(Ma.nZ (b.drop p)).length else 0):=rfl
         rw [if_pos hP,z,List.length_nil] at this
         rw [this];omega
      rw [if_pos ho] at k
      refine a0 _ rfl (a0 _ rfl (d8 _ rfl (by show 3<=sizeLine;decide) (fun l hl=>?_)))
      refine k _ _ _ (e0.lay hl) (a0 l rfl (.of ?_))
      rw [c7]
      cases Ma.nP (b.drop p)<;>rfl
end
end Th
set_option maxHeartbeats 2000000
namespace Th
open PySem PySem.Spec PyProof.Rows L2
open Ln (Bytes)
open Ln.Text (isDigit natural isLetter isMark tokenIn numberIn WORDS NAME)
def P3:Bytes:=[58,44,59,47,45]
theorem aH2:(Str.ofString ":,;/-")=aA0 P3:=by decide +kernel
theorem aC2 (c:UInt8):isMark c=true↔c∈P3:=by
 have:Ln.ascii ":,;/-"=P3:=by decide +kernel
 unfold isMark
 rw [this]
 exact List.contains_iff_mem
section
variable {w:World}{K:W.Frag}{mg:Str->Option Value}{base:Heap}{CN:Addr}
def ai9 (K:W.Frag):Sp:=fun vs H Q _=>∃ (G:Hp) (a:V) (b:Bytes) (p:Nat),vs=[a,.int (p:Int)]/\j6 G H/\Bs K G a b/\p<=b.length/\∀ v G' H',Ext [] G H G' H'->TkV K G' v (kdS (Ma.g8 b p).1) (Ma.l4 b p) (Ma.l4 b p+(Ma.g8 b p).2)->Q v H'
theorem aA6:g9 ["text","place","start","mark"] ["text","place"] (d7 W0):=⟨rfl,rfl,rfl,by decide +kernel,rfl,by decide +kernel,by decide +kernel⟩
theorem az5 {b:Bytes}{p:Nat}(h:p<=b.length):Ma.l4 b p<=b.length:=by
 unfold Ma.l4
 have:=Ma.aQ8 false (b.drop p)
 rw [List.length_drop] at this
 omega
theorem av4 {c:Bytes}{x:UInt8}{r:Bytes}(hc:c=x::r)(h0:isLetter x=false)(h:isDigit x=false):tokenIn c=if isMark x=true then (.mark x,1) else (.broken,0):=by
 subst hc
 simp only [tokenIn,h0,h]
 rfl
theorem bt2 {f:Addr}{fd:FuncData}(F:Fun K "token_from" "token_from" W0 f fd)(T:Tl K mg CN)(Db:Def prog w K mg base 1 "blanks_end" ["text","place"] (aF2 K))(Dl:Def prog w K mg base 1 "begins_name" ["byte"] ap9)(Dd:Def prog w K mg base 1 "is_digit" ["byte"] an6)
  (Dn:Def prog w K mg base 3 "name_token" ["text","start"] (an5 K fun c=>isLetter c=true)) (Du:Def prog w K mg base 4 "number_token" ["text","start"] (an5 K fun c=>isLetter c=false/\isDigit c=true)):l6 prog w K mg base (cxX prog w) 5 f fd ["text","place"] (ai9 K):=by
 refine F.okX aA6 (fun vs H Q E h=>?_) (fun cdv A outer s H vs Q E hr h=>?_)
 ·obtain ⟨G,a,b,p,rfl,_⟩:=h;rfl
 ·obtain ⟨G,_,b,p,rfl,sm,⟨a,rfl,ha⟩,hp,k⟩:=h
  have hr1:=hr.mono (show 1<=4 by decide)
  have hr3:=hr.mono (show 3<=4 by decide)
  refine a0 _ (c6 (h9 (i:=2) aA6.nd rfl (Or.inl rfl) (d9 Db hr1 d4 (b0 (pv 0) (b0 (pv 1) c9))))
   (c6 (q0 (j5 E0 (pv 2) (w8 w9 (by rfl) T.len_ boot_len (b0 (pv 0) c9)) (j8 _)) (d5 (i4 (y1 (b0 i9 (b0 (pv 2) (b0 (pv 2) c9)))))) j3)
   (c6 (q0 (B7 (d9 Dl hr1 d4 (b0 (m7 A9 (pv 0) (pv 2) (fun _ _=>rfl)) c9))) (d5 (i4 (d9 Dn hr3 d4 (b0 (pv 0) (b0 (pv 2) c9))))) j3)
   (c6 (q0 (B7 (d9 Dd hr1 d4 (b0 (m7 A9 (pv 0) (pv 2) (fun _ _=>rfl)) c9))) (d5 (i4 (d9 Du hr d4 (b0 (pv 0) (b0 (pv 2) c9))))) j3)
   (c6 (O8 C9 rfl (aM8 (pgs T.marks_)) (B6 (i:=3) aA6.nd rfl (Or.inl rfl)) (d5 (q0 (j5 E0 (m7 A9 (pv 0) (pv 2) (fun _ _=>rfl)) (w8 at5 (by rfl) T.ord_ boot_ord (b0 (pv 3) c9)) (j8 _))
    (d5 (i4 (y1 (b0 (pv 3) (b0 (pv 2) (b0 (i6 J3 (pv 2) g7) c9)))))) j3)))
   (d5 (i4 (y1 (b0 i9 (b0 (pv 2) (b0 (pv 2) c9))))))))))) ?_
  have hS:=az5 hp
  have eX:Ma.g8 b p=tokenIn (b.drop (Ma.l4 b p)):=rfl
  rw [eX] at k
  refine a0 _ rfl (a0 _ rfl (j0 G _ b p rfl sm (a0 a rfl ha) hp (fun G1 H1 e1=>?_)))
  generalize Ma.l4 b p=S at k hS
  have hT:SqL K H1 a (h8 b):=e1.sub.seq (e1.grow.seq ha)
  refine a0 _ rfl (a0 _ rfl (i5 a _ rfl (.inl hT) rfl (a0 _ rfl (K9 (fun h1=>?_) (fun h1=>?_)))))
  ·rw [i3] at h1
   rw [List.drop_eq_nil_of_le (by omega)] at k
   refine a0 _ rfl (d8 _ rfl (by show 3<=sizeLine;decide) (fun l hl=>?_))
   exact k _ _ _ (e1.lay hl) (a0 l rfl (.of c7))
  have hlt:S < b.length:=by rw [i3] at h1;omega
  refine a0 _ rfl (a0 _ rfl (j0 a _ _ _ rfl rfl hT (L5 hlt) (a0 (b[S]) rfl (a0 _ rfl (K0 (fun h2=>?_) (fun h2=>?_))))))
  ·exact a0 _ rfl (a0 _ rfl (G0 G1 _ b ⟨S,j7 hlt ⟨rfl,e1.sub,(a0 a rfl (e1.grow.seq ha)),h2,fun v G2 H2 e2 t=>k v G2 H2 (e1.trans e2) t⟩⟩))
  refine a0 _ rfl (a0 _ rfl (j0 a _ _ _ rfl rfl hT (L5 hlt) (a0 (b[S]) rfl (a0 _ rfl (K0 (fun h3=>?_) (fun h3=>?_))))))
  ·exact a0 _ rfl (a0 _ rfl (G0 G1 _ b ⟨S,j7 hlt ⟨rfl,e1.sub,(a0 a rfl (e1.grow.seq ha)),⟨h2,h3⟩,fun v G2 H2 e2 t=>k v G2 H2 (e1.trans e2) t⟩⟩))
  rw [av4 (C5 hlt) h2 h3] at k
  refine a0 _ rfl (bx3 (x:=Str.ofString ":,;/-") (fun i σ H'=>∃ r,σ=[some (.ref a),some (.int (p:Int)),some (.int (S:Int)),r]/\H'=H1/\b[S]∉P3.take i) (d8 none rfl rfl (by simp)) ?_ ?_)
  ·rintro i y σ H' hy ⟨r,rfl,rfl,hn⟩
   rw [aH2,af7,List.getElem?_map] at hy
   obtain ⟨c,hc,rfl⟩:∃ c,P3[i]?=some c/\y=V.str ⟨#[c.toNat]⟩:=by
    cases q:P3[i]? with
    | none=>rw [q] at hy;cases hy
    | some x=>rw [q] at hy;exact a0 x rfl ((Option.some.inj hy).symm)
   obtain ⟨hi,hic⟩:=List.getElem?_eq_some_iff.mp hc
   refine a0 _ rfl (a0 _ rfl (j0 a _ _ _ rfl rfl hT (L5 hlt) (a0 _ rfl (I0 _ rfl rfl rfl (a0 _ rfl (K9 (fun h4=>?_) (fun h4=>?_)))))))
   ·have hbc:b[S]=c:=UInt8.toNat_inj.mp (by
     have:((b[S].toNat:Nat):Int)=((c.toNat:Nat):Int):=h4
     omega)
    have hm:isMark b[S]=true:=(aC2 _).mpr (by rw [hbc];exact List.mem_of_getElem? hc)
    rw [if_pos hm] at k
    refine a0 _ rfl (a0 _ rfl (a0 _ rfl (i5 _ _ rfl rfl (by show 3<=sizeLine;decide) (fun l hl=>?_))))
    refine k _ _ _ (e1.lay hl) (a0 l rfl (.of ?_))
    rw [c7,hbc];rfl
   ·refine d8 _ rfl rfl ?_
    rw [ad5 hi,hic]
    intro hmem
    rcases List.mem_append.mp hmem with q | q
    ·exact hn q
    ·exact h4 (by rw [List.mem_singleton.mp q];rfl)
  ·rintro σ H' ⟨r,rfl,rfl,hn⟩
   have hl5:P3.take (sgn (Str.ofString ":,;/-")).length=P3:=by rw [aH2,af7,List.length_map];exact List.take_length
   rw [hl5] at hn
   rw [if_neg (fun z=>hn ((aC2 _).mp z))] at k
   refine a0 _ rfl (d8 _ rfl (by show 3<=sizeLine;decide) (fun l hl=>?_))
   exact k _ _ _ (e1.lay hl) (a0 l rfl (.of c7))
end
end Th
set_option maxHeartbeats 2000000
namespace Th
open PySem PySem.Spec PyProof.Rows L2
open Ln (Bytes)
open Ln.Text (isDigit natural isLetter isMark tokenIn numberIn WORDS NAME P Lex)
open Ma (isK P5 l4 g8 Lx z6)
def L6:Ma.K->Str
 | .w s=>Str.ofString s
 | .m c=>⟨#[c.toNat]⟩
 | .name=>"name"
 | .whole=>"whole"
 | .pointed=>"pointed"
 | .fin=>"end"
 | .none=>"none"
def ad0:List Ma.K:=WS.map Ma.K.w++P3.map Ma.K.m++[.name,.whole,.pointed,.fin,.none]
theorem bw1:∀ w∈WORDS,∀ k∈ad0,decide (kdS (.word w)=L6 k)=isK k (.word w):=by decide +kernel
theorem bw2:∀ c∈P3,∀ k∈ad0,decide (kdS (.mark c)=L6 k)=isK k (.mark c):=by decide +kernel
theorem bK1:∀ k∈ad0,decide (kdS .end_=L6 k)=isK k .end_:=by decide +kernel
theorem aZ6:∀ k∈ad0,decide (kdS .broken=L6 k)=isK k .broken:=by decide +kernel
theorem bl7:∀ k∈ad0,decide (kdS (.name [])=L6 k)=isK k (.name []):=by decide +kernel
theorem aZ5:∀ k∈ad0,decide (kdS (.num 0 0 false)=L6 k)=isK k (.num 0 0 false):=by decide +kernel
theorem aI2:∀ k∈ad0,decide (kdS (.num 0 0 true)=L6 k)=isK k (.num 0 0 true):=by decide +kernel
theorem bm0 (k:Ma.K)(b:Bytes):isK k (.name b)=isK k (.name []):=by
 cases k with
 | name=>rfl
 | w s=>rfl
 | m c=>rfl
 | _=>rfl
theorem bw5 (k:Ma.K)(n z:Nat)(p:Bool):isK k (.num n z p)=isK k (.num 0 0 p):=by
 cases p<;>cases k<;>rfl
theorem bl9 {t:Ln.Text.Tok}(ht:P5 t){k:Ma.K}(hk:k∈ad0):decide (kdS t=L6 k)=isK k t:=by
 cases t with
 | word w=>exact bw1 w ht k hk
 | mark c=>exact bw2 c ((aC2 c).mp ht) k hk
 | name b=>rw [bm0];exact bl7 k hk
 | num n z p =>
  rw [bw5]
  cases p with
  | true=>exact aI2 k hk
  | false=>exact aZ5 k hk
 | end_=>exact bK1 k hk
 | broken=>exact aZ6 k hk
theorem aQ0 (b:Bytes)(p:Nat):P5 (g8 b p).1:=Ma.bC3 _
def ff (p k:Int):List (Str×V):=z9 "kind" (.int k) (z9 "place" (.int p) [])
def bM2 (H:Hp)(d:Addr)(place kind:Nat):Prop:=H d=some (xdO d (ff (place:Int) (kind:Int)))
structure ad1 (P:Program)(w:World)(K:W.Frag)(mg:Str->Option Value)(base:Heap)(k:Nat)(C:Addr)(m:Str)(ps:List Str)(sp:Sp):Prop where
 ex:∃ f fd,l6 P w K mg base (cxX P w) k f fd ps sp/\bb3 K C m f/\P7 K fd ps []
section
variable {X:Cx}{k:Nat}{C:Addr}{m:Str}{ps:List Str}{sp:Sp}{E:XK}{apos pos:Pos}{o e:Expr}{es:List Expr}{ta:TE}{t:TA}
theorem ac1 {pl:Sem Bool}(D:ad1 X.prog X.w X.K X.mg X.base k C m ps sp)(c:Cls X.K C)(hr:C2 k X.A)(hx:B3 (cxX X.prog X.w) X E)(he:PE X o ta)(ha:PA X (e::es) t)
  (hst:starEach (e::es) X.env=(false,eval e X.env)::starEach es X.env:=by rfl) (hpl:(backTo pos (starEach es X.env)).any (·.1)=false:=by rfl)
  (ht:eval (.Call (.Attribute o m apos) (e::es) [] pos) X.env=(do
   let ov ← eval o X.env
   standAt apos.atName
   let (f,first) ← holding [ov] (getMethod ov m pl)
   callWith pos f first (backTo pos (starEach (e::es) X.env)) (backToKw pos (keywordEach [] X.env))):=by rfl) :
  PE X (.Call (.Attribute o m apos) (e::es) [] pos) (aQ2 C m sp [] E ta t):=by
 obtain ⟨f,fd,F,hm,hb⟩:=D.ex
 exact bs1 he c hm F hr hb .nil hx ha hst hpl ht
theorem aq7 {pl:Sem Bool}(D:ad1 X.prog X.w X.K X.mg X.base k C m ps sp)(c:Cls X.K C)(hr:C2 k X.A)(hx:B3 (cxX X.prog X.w) X E)(he:PE X o ta)
  (ht:eval (.Call (.Attribute o m apos) [] [] pos) X.env=(do
   let ov ← eval o X.env
   standAt apos.atName
   let (f,first) ← holding [ov] (getMethod ov m pl)
   callWith pos f first (backTo pos (starEach [] X.env)) (backToKw pos (keywordEach [] X.env))):=by rfl) :
  PE X (.Call (.Attribute o m apos) [] [] pos) (aQ2 C m sp [] E ta am7):=by
 obtain ⟨f,fd,F,hm,hb⟩:=D.ex
 exact bi3 he c hm F hr hb .nil hx ht
end
def rf (t tk:Addr):List (Str×V):=z9 "token" (.ref tk) (z9 "text" (.ref t) [])
theorem aR6 (t tk:Addr):(rf t tk).lookup ("text" : Str)=some (.ref t):=rfl
theorem O6 (t tk:Addr):(rf t tk).lookup ("token" : Str)=some (.ref tk):=rfl
theorem bE8 (t tk u:Addr):z9 "token" (.ref u) (rf t tk)=rf t u:=rfl
def ag4:List Str:=["sees","piece","refuse","expect","step","take"]
theorem aw3 (t tk:Addr):∀ m∈ag4,(rf t tk).lookup m=none:=by
 have key:∀ m∈ag4,(m == ("text" : Str))=false/\(m == ("token" : Str))=false:=by decide +kernel
 intro m hm
 obtain ⟨h1,h2⟩:=key m hm
 show List.lookup m [(("text" : Str),V.ref t),(("token" : Str),V.ref tk)]=none
 rw [List.lookup_cons,h1,List.lookup_cons,h2];rfl
structure A2 (K:W.Frag)(CR:Addr)(G H:Hp)(r:Addr)(b:Bytes)(p:Nat):Prop where
 le:p<=b.length
 ex:∃ dx t tk,Own G H r (.ins CR dx (rf t tk))/\SqL K G t (h8 b)/\SqT K G tk [.str (kdS (g8 b p).1),.int ((l4 b p:Nat):Int),.int ((l4 b p+(g8 b p).2:Nat):Int)]
theorem A2.ext {K:W.Frag}{CR:Addr}{M:List Addr}{G H G1 H1:Hp}{r:Addr}{b:Bytes}{p:Nat}(h:A2 K CR G H r b p)(e:Ext M G H G1 H1)(hr:r∉M):A2 K CR G1 H1 r b p:=by
 obtain ⟨le,dx,t,tk,h1,h2,h3⟩:=h
 exact ⟨le,Z2 dx t tk (h1.ext e hr) (e.grow.seq h2) (e.grow.seqT h3)⟩
structure Tr (K:W.Frag)(mg:Str->Option Value)(CN CF CR:Addr):Prop extends Tl K mg CN where
 cl:Cls K CR
 nText:l8 K CR "text"
 nToken:l8 K CR "token"
 fm:mg "Fault"=some (.ref CF)
 fk:W.keepIn K (.ref CF)=true
 most64_:GI mg "MOST" 64
 k1:GI mg "NO_TOKEN" 1
 k2:GI mg "CANNOT_STAND" 2
 k3:GI mg "NAME_TAKEN" 3
 k4:GI mg "NO_SUCH_GLASS" 4
 k5:GI mg "TOO_MANY" 5
 k6:GI mg "BAD_NUMBER" 6
section
variable {w:World}{K:W.Frag}{mg:Str->Option Value}{base:Heap}{CN CF CR:Addr}
def bN8 (CF:Addr):Sp:=fun vs H Q _=>∃ (x:Addr) (p k:Int),vs=[.ref x,.int p,.int k]/\H x=some (xoO x CF none)/\∀ H2 d,H2 x=some (xoO x CF (some d))->d≠x->H2 d=some (xdO d (ff p k))->Q .non H2
theorem bO6:g9 ["self","place","kind"] ["self","place","kind"] (d7 D3):=⟨rfl,rfl,rfl,by decide +kernel,rfl,by decide +kernel,by decide +kernel⟩
theorem bd2:typeLookup (.type "Exception") "place"=pure none:=by rfl
theorem bp6:typeLookup (.type "Exception") "kind"=pure none:=by rfl
theorem bQ0 {f fI:Addr}{fd:FuncData}{names:List Str}(F:Fun K "__init__" "Fault.__init__" D3 f fd)(xc:aD9 K CF fI names)(h1:("place" : Str)∈names)(h2:("kind" : Str)∈names):l6 prog w K mg base (cxX prog w) 1 f fd ["self","place","kind"] (bN8 CF):=by
 refine F.okX bO6 (fun vs H Q E h=>?_) (fun cdv A outer s H vs Q E hr h=>?_)
 ·obtain ⟨x,p,k,rfl,_⟩:=h;rfl
 ·obtain ⟨x,p,k,rfl,hx,kk⟩:=h
  refine a0 _ (c6 (aR9 xc h1 bd2 (pv 0) (pv 1) rfl) (d5 (aR9 xc h2 bp6 (pv 0) (pv 2) rfl))) ?_
  refine a0 _ rfl (a0 _ rfl (u0 x none ([]) rfl hx (.inl ⟨rfl,rfl⟩) (by show 0 < 1000;decide) (fun d hd ne=>?_)))
  refine a0 _ rfl (a0 _ rfl (u0 x (some d) _ rfl c7 (.inr (d8 d rfl ne (by rw [d6 ne,c7]))) (by show 1 < 1000;decide) (fun d' hd' ne'=>?_)))
  rcases hd' with ⟨z,_⟩ | z
  ·cases z
  ·cases z
   exact kk _ d c7 ne (by rw [d6 ne,c7];rfl)
def aL7 (K:W.Frag)(CR:Addr):Sp:=fun vs H Q _=>∃ (G:Hp) (r:Addr) (b:Bytes) (p:Nat) (k:Ma.K),vs=[.ref r,.str (L6 k)]/\k∈ad0/\j6 G H/\A2 K CR G H r b p/\Q (.bl (isK k (g8 b p).1)) H
theorem br1:g9 ["self","kind"] ["self","kind"] (d7 S7):=⟨rfl,rfl,rfl,by decide +kernel,rfl,by decide +kernel,by decide +kernel⟩
theorem bt5 {f:Addr}{fd:FuncData}(F:Fun K "sees" "Reader.sees" S7 f fd)(T:Tr K mg CN CF CR):l6 prog w K mg base (cxX prog w) 1 f fd ["self","kind"] (aL7 K CR):=by
 refine F.okX br1 (fun vs H Q E h=>?_) (fun cdv A outer s H vs Q E hr h=>?_)
 ·obtain ⟨G,r,b,p,k,rfl,_⟩:=h;rfl
 ·obtain ⟨G,r,b,p,k,rfl,hka,sm,⟨_,dx,t,tk,ho,ht,hk⟩,kk⟩:=h
  refine a0 _ (d5 (i4 (Q6 E0 (m7 o8 (l9 (pv 0) rfl) g7 (fun _ _=>rfl)) (pv 1) (j8 _)))) ?_
  refine a0 _ rfl (j1 r CR dx _ _ rfl ho.at_ T.cl T.nToken (O6 _ _) (j0 tk _ _ _ rfl rfl (sm.seqT hk) rfl (d8 _ rfl rfl ?_)))
  have e:decide (V.str (kdS (g8 b p).1)=V.str (L6 k))=decide (kdS (g8 b p).1=L6 k):=decide_eq_decide.mpr ⟨fun z=>V.str.inj z,fun z=>by rw [z]⟩
  rw [e,bl9 (aQ0 b p) hka];exact kk
def ar0 (b:Bytes)(p:Nat):Bytes:=(b.drop (l4 b p)).take (g8 b p).2
theorem ad4 {b:Bytes}{p:Nat}(h:p<=b.length):l4 b p+(g8 b p).2<=b.length:=by
 have h1:=az5 h
 cases z:z6 (g8 b p).1 with
 | false =>
  have:=(Ma.az4 _ z).2
  rw [List.length_drop] at this
  show l4 b p+(tokenIn (b.drop (l4 b p))).2<=_
  omega
 | true =>
  have key:∀ c:Bytes,z6 (tokenIn c).1=true->(tokenIn c).2=0:=by
   intro c hc
   cases c with
   | nil=>rfl
   | cons x r =>
    cases h1:isLetter x with
    | true =>
     rw [ao9 rfl h1] at hc ⊢
     split at hc
     ·rename_i hz;rw [if_pos hz]
     ·split at hc<;>cases hc
    | false =>
     cases h2:isDigit x with
     | true =>
      rw [aP9 rfl h1 h2,Ma.D0] at hc ⊢
      split at hc
      ·cases hc
      ·rename_i hz;rw [if_neg hz]
     | false =>
      rw [av4 rfl h1 h2] at hc ⊢
      split at hc
      ·cases hc
      ·rename_i hz;rw [if_neg hz]
  have:(g8 b p).2=0:=key _ z
  omega
def aA1 (K:W.Frag)(CR:Addr):Sp:=fun vs H Q _=>∃ (G:Hp) (r:Addr) (b:Bytes) (p:Nat),vs=[.ref r]/\j6 G H/\A2 K CR G H r b p/\∀ v G' H',Ext [] G H G' H'->Bl G' v (ar0 b p)->Q v H'
theorem bg6:g9 ["self"] ["self"] (d7 O4):=⟨rfl,rfl,rfl,by decide +kernel,rfl,by decide +kernel,by decide +kernel⟩
theorem bj4 {f:Addr}{fd:FuncData}(F:Fun K "piece" "Reader.piece" O4 f fd)(T:Tr K mg CN CF CR):l6 prog w K mg base (cxX prog w) 1 f fd ["self"] (aA1 K CR):=by
 refine F.okX bg6 (fun vs H Q E h=>?_) (fun cdv A outer s H vs Q E hr h=>?_)
 ·obtain ⟨G,r,b,p,rfl,_⟩:=h;rfl
 ·obtain ⟨G,r,b,p,rfl,sm,⟨hle,dx,t,tk,ho,ht,hk⟩,kk⟩:=h
  refine a0 _ (d5 (i4 (E9 L0 (l9 (pv 0) rfl) (D5 (m7 o8 (l9 (pv 0) rfl) g7 (fun _ _=>rfl))) (D5 (m7 o8 (l9 (pv 0) rfl) g7 (fun _ _=>rfl)))))) ?_
  refine a0 _ rfl (j1 r CR dx _ _ rfl ho.at_ T.cl T.nText (aR6 _ _) (a0 _ rfl (j1 r CR dx _ _ rfl ho.at_ T.cl T.nToken (O6 _ _) (j0 tk _ _ _ rfl rfl (sm.seqT hk) rfl (a0 _ rfl (a0 _ rfl (j1 r CR dx _ _ rfl ho.at_ T.cl T.nToken (O6 _ _) (j0 tk _ _ _ rfl rfl (sm.seqT hk) rfl (a0 _ rfl (g6 t _ rfl (sm.seq ht) (fun l hl=>?_)))))))))))
  rw [ak2 b _ _ (az5 hle) (ad4 hle),Nat.add_sub_cancel_left]
  exact kk _ _ _ ((Ext.refl sm).lay hl) (a0 l rfl c7)
end
end Th
set_option maxHeartbeats 2000000
namespace Th
open PySem PySem.Spec PyProof.Rows L2
open Ln (Bytes)
open Ln.Text (isDigit natural isLetter isMark tokenIn numberIn WORDS NAME P Lex)
open Ma (isK P5 l4 g8 Lx z6)
section
variable {w:World}{K:W.Frag}{mg:Str->Option Value}{base:Heap}{CN CF CR:Addr}
structure FI (w:World)(K:W.Frag)(mg:Str->Option Value)(base:Heap)(CF:Addr):Prop where
 ex:∃ fI fd names,aD9 K CF fI names/\l6 prog w K mg base (cxX prog w) 1 fI fd ["self","place","kind"] (bN8 CF)/\P7 K fd ["self","place","kind"] []
def af3 (CF:Addr)(E:XK)(e:Nat×Nat):Prop:=∀ H' d,bM2 H' d e.2 e.1->E (.ref CF) (some d) H'
def ap6 (K:W.Frag)(CR CF:Addr):Sp:=fun vs H _ E=>∃ (G:Hp) (r:Addr) (b:Bytes) (p k:Nat),vs=[.ref r,.int (k:Int)]/\j6 G H/\A2 K CR G H r b p/\af3 CF E (k,l4 b p)
theorem aW7:g9 ["self","kind"] ["self","kind"] (d7 M4):=⟨rfl,rfl,rfl,by decide +kernel,rfl,by decide +kernel,by decide +kernel⟩
theorem aX8 {f:Addr}{fd:FuncData}(F:Fun K "refuse" "Reader.refuse" M4 f fd)(T:Tr K mg CN CF CR)(X:FI w K mg base CF):l6 prog w K mg base (cxX prog w) 3 f fd ["self","kind"] (ap6 K CR CF):=by
 obtain ⟨fI,fdI,names,xc,FF,hb⟩:=X.ex
 refine F.okX aW7 (fun vs H Q E h=>?_) (fun cdv A outer s H vs Q E hr h=>?_)
 ·obtain ⟨G,r,b,p,k,rfl,_⟩:=h;rfl
 ·obtain ⟨G,r,b,p,k,rfl,sm,⟨_,dx,t,tk,ho,ht,hk⟩,kk⟩:=h
  refine a0 _ (d5 (aX4 L9 rfl rfl (by rfl) T.fm T.fk xc FF hr hb (b0 (m7 o8 (l9 (pv 0) rfl) g7 (fun _ _=>rfl)) (b0 (pv 1) c9)))) ?_
  refine a0 _ rfl (j1 r CR dx _ _ rfl ho.at_ T.cl T.nToken (O6 _ _) (j0 tk _ _ _ rfl rfl (sm.seqT hk) rfl (d8 _ rfl (by show 2<=sizeLine;decide) (fun x hx=>?_))))
  refine Z2 x _ _ rfl c7 (fun H2 d h1 ne h2=>⟨rfl,a0 (some d) h1 (kk _ d ?_)⟩)
  show del H2 x d=_
  rw [aD5 ne];exact h2
theorem D9 (ks:List Ma.K)(b:Bytes)(p:Nat):Ma.expect ks (Lx b p)=if (g8 b p).1=.broken then .error (1,l4 b p) else if (ks.any fun k=>isK k (g8 b p).1)=true then .ok ((),Lx b p) else .error (2,l4 b p):=by
 rw [Ma.B4,Ma.y8]
theorem bR1 {ks:List Ma.K}(h:∀ k∈ks,k∈ad0){t:Ln.Text.Tok}(ht:P5 t):inV (.str (kdS t)) (ks.map fun k=>V.str (L6 k))=ks.any fun k=>isK k t:=by
 induction ks with
 | nil=>rfl
 | cons k ks ih =>
  show (L6 k == kdS t || inV (.str (kdS t)) (ks.map fun k=>V.str (L6 k)))=(isK k t || ks.any fun k=>isK k t)
  rw [ih fun q hq=>h q (List.mem_cons_of_mem _ hq),<-bl9 ht (h k (List.mem_cons_self ..))]
  congr 1
  by_cases q:kdS t=L6 k
  ·rw [q];simp
  ·rw [decide_eq_false q];exact beq_eq_false_iff_ne.mpr fun z=>q z.symm
theorem bK8 (ks:List Ma.K):(ks.map fun k=>V.str (L6 k)).all V0=true:=by
 induction ks with
 | nil=>rfl
 | cons k ks ih=>exact ih
def ap7 (K:W.Frag)(CR CF:Addr):Sp:=fun vs H Q E=>∃ (G:Hp) (r:Addr) (b:Bytes) (p:Nat) (kp:Addr) (ks:List Ma.K),vs=[.ref r,.ref kp]/\j6 G H/\A2 K CR G H r b p/\SqT K H kp (ks.map fun k=>V.str (L6 k))/\(∀ k∈ks,k∈ad0) /\
 match Ma.expect ks (Lx b p) with
 | .ok _=>Q .non H
 | .error e=>af3 CF E e
theorem aW8:g9 ["self","kinds"] ["self","kinds"] (d7 M5):=⟨rfl,rfl,rfl,by decide +kernel,rfl,by decide +kernel,by decide +kernel⟩
theorem aY0 {f:Addr}{fd:FuncData}(F:Fun K "expect" "Reader.expect" M5 f fd)(T:Tr K mg CN CF CR)(Ds:ad1 prog w K mg base 1 CR "sees" ["self","kind"] (aL7 K CR))(Dr:ad1 prog w K mg base 3 CR "refuse" ["self","kind"] (ap6 K CR CF)):l6 prog w K mg base (cxX prog w) 4 f fd ["self","kinds"] (ap7 K CR CF):=by
 refine F.okX aW8 (fun vs H Q E h=>?_) (fun cdv A outer s H vs Q E hr h=>?_)
 ·obtain ⟨G,r,b,p,kp,ks,rfl,_⟩:=h;rfl
 ·obtain ⟨G,r,b,p,kp,ks,rfl,sm,hR,hks,hall,kk⟩:=h
  have hr1:=hr.mono (show 1<=3 by decide)
  obtain ⟨_,dx,t,tk,ho,ht,hk⟩:=id hR
  refine a0 _ (c6 (q0 (B7 (ac1 Ds T.cl hr1 d4 (pv 0) (b0 i9 c9))) (d5 (i8 (ac1 Dr T.cl hr d4 (pv 0) (b0 (pgi T.k1) c9)))) j3)
   (d5 (q0 (j5 ag3 (m7 o8 (l9 (pv 0) rfl) g7 (fun _ _=>rfl)) (pv 1) rfl) (d5 (i8 (ac1 Dr T.cl hr d4 (pv 0) (b0 (pgi T.k2) c9)))) j3))) ?_
  have hno:=aw3 t tk
  rw [D9] at kk
  refine a0 _ rfl (j4 r dx _ rfl ho.at_ (hno _ (by decide +kernel)) (z7 G r b p .none rfl (by decide +kernel) sm hR (a0 _ rfl (K0 (fun h1=>?_) (fun h1=>?_)))))
  ·have hb:(g8 b p).1=.broken:=eq_of_beq h1
   rw [if_pos hb] at kk
   exact a0 _ rfl (j4 r dx _ rfl ho.at_ (hno _ (by decide +kernel)) (Z1 G r b p 1 rfl sm hR kk))
  ·have hb:¬ (g8 b p).1=.broken:=fun z=>by rw [z] at h1;cases h1
   rw [if_neg hb] at kk
   refine a0 _ rfl (j1 r CR dx _ _ rfl ho.at_ T.cl T.nToken (O6 _ _) (j0 tk _ _ _ rfl rfl (sm.seqT hk) rfl (a0 _ rfl (C6 kp _ rfl (.inr hks) rfl (bK8 ks) (a0 _ rfl ?_)))))
   show if (!inV (.str (kdS (g8 b p).1)) (ks.map fun k=>V.str (L6 k)))=true then _ else _
   rw [bR1 hall (aQ0 b p)]
   cases hz:ks.any fun k=>isK k (g8 b p).1 with
   | true =>
    rw [hz,if_pos rfl] at kk
    exact aj9 kk
   | false =>
    rw [hz,if_neg (by decide)] at kk
    exact ag8 (a0 _ rfl (j4 r dx _ rfl ho.at_ (hno _ (by decide +kernel)) (Z1 G r b p 2 rfl sm hR kk)))
def aL5 (K:W.Frag)(CR:Addr):Sp:=fun vs H Q _=>∃ (G:Hp) (r:Addr) (b:Bytes) (p:Nat),vs=[.ref r]/\j6 G H/\A2 K CR G H r b p/\∀ G' H',Ext [r] G H G' H'->A2 K CR G' H' r b (l4 b p+(g8 b p).2)->Q .non H'
theorem br0:g9 ["self"] ["self"] (d7 S6):=⟨rfl,rfl,rfl,by decide +kernel,rfl,by decide +kernel,by decide +kernel⟩
theorem bt4 {f:Addr}{fd:FuncData}(F:Fun K "step" "Reader.step" S6 f fd)(T:Tr K mg CN CF CR)(Dt:Def prog w K mg base 5 "token_from" ["text","place"] (ai9 K)):l6 prog w K mg base (cxX prog w) 6 f fd ["self"] (aL5 K CR):=by
 refine F.okX br0 (fun vs H Q E h=>?_) (fun cdv A outer s H vs Q E hr h=>?_)
 ·obtain ⟨G,r,b,p,rfl,_⟩:=h;rfl
 ·obtain ⟨G,r,b,p,rfl,sm,⟨hle,dx,t,tk,ho,ht,hk⟩,kk⟩:=h
  refine a0 _ (d5 (A0 (pv 0) (d9 Dt hr d4 (b0 (l9 (pv 0) rfl) (b0 (m7 o8 (l9 (pv 0) rfl) g7 (fun _ _=>rfl)) c9))) rfl)) ?_
  refine a0 _ rfl (j1 r CR dx _ _ rfl ho.at_ T.cl T.nText (aR6 _ _) (a0 _ rfl (j1 r CR dx _ _ rfl ho.at_ T.cl T.nToken (O6 _ _) (j0 tk _ _ _ rfl rfl (sm.seqT hk) rfl (j0 G _ b (l4 b p+(g8 b p).2) rfl sm (a0 t rfl ht) (ad4 hle) (fun v G1 H1 e1 tv=>?_))))))
  obtain ⟨u,rfl,hu⟩:=tv
  have ho1:=ho.ext e1 (by simp)
  refine a0 _ rfl (l0 r CR dx _ rfl ho1.at_ T.cl T.nToken (by show 2 < 1000;decide) ?_)
  rw [bE8]
  have e2:Ext [r] G H G1 (upd H1 r (.ins CR dx (rf t u))):=(e1.up (M:=[r])).put (.inr (by simp)) ho1.fr
  exact kk _ _ e2 ⟨ad4 hle,Z2 dx t u ⟨c7,ho1.fr⟩ (e1.grow.seq ht) hu⟩
theorem U2 (k:Ma.K)(b:Bytes)(p:Nat)(hn:z6 (g8 b p).1=true->isK k (g8 b p).1=false):Ma.x8 k (Lx b p)=if (g8 b p).1=.broken then .error (1,l4 b p) else if isK k (g8 b p).1=true then .ok ((g8 b p).1,Lx b (l4 b p+(g8 b p).2)) else .error (2,l4 b p):=by
 rw [Ma.B4 b p,Ma.B1]
 dsimp only
 cases z:isK k (g8 b p).1 with
 | false=>rfl
 | true =>
  have:¬ z6 (g8 b p).1=true:=fun q=>by rw [hn q] at z;cases z
  rw [if_neg this]
def N4:List Ma.K:=WS.map Ma.K.w++P3.map Ma.K.m++[.name,.whole,.pointed]
theorem bd7:∀ k∈N4,k∈ad0:=by decide +kernel
theorem aE7:∀ k∈N4,isK k .end_=false/\isK k .broken=false:=by decide +kernel
theorem K3 {k:Ma.K}(hk:k∈N4){t:Ln.Text.Tok}(h:z6 t=true):isK k t=false:=by
 cases t with
 | end_=>exact (aE7 k hk).1
 | broken=>exact (aE7 k hk).2
 | _=>cases h
def bf4 (K:W.Frag)(CR CF:Addr):Sp:=fun vs H Q E=>∃ (G:Hp) (r:Addr) (b:Bytes) (p:Nat) (k:Ma.K),vs=[.ref r,.str (L6 k)]/\j6 G H/\A2 K CR G H r b p/\k∈N4 /\
 match Ma.x8 k (Lx b p) with
 | .ok _=>∀ v G' H',Ext [r] G H G' H'->A2 K CR G' H' r b (l4 b p+(g8 b p).2)->Bl G' v (ar0 b p)->Q v H'
 | .error e=>af3 CF E e
theorem aR2:g9 ["self","kind","piece"] ["self","kind"] (d7 S5):=⟨rfl,rfl,rfl,by decide +kernel,rfl,by decide +kernel,by decide +kernel⟩
theorem bt3 {f:Addr}{fd:FuncData}(F:Fun K "take" "Reader.take" S5 f fd)(T:Tr K mg CN CF CR)(De:ad1 prog w K mg base 4 CR "expect" ["self","kinds"] (ap7 K CR CF))(Dp:ad1 prog w K mg base 1 CR "piece" ["self"] (aA1 K CR))(Ds:ad1 prog w K mg base 6 CR "step" ["self"] (aL5 K CR)):l6 prog w K mg base (cxX prog w) 7 f fd ["self","kind"] (bf4 K CR CF):=by
 refine F.okX aR2 (fun vs H Q E h=>?_) (fun cdv A outer s H vs Q E hr h=>?_)
 ·obtain ⟨G,r,b,p,k,rfl,_⟩:=h;rfl
 ·obtain ⟨G,r,b,p,k,rfl,sm,hR,hk,kk⟩:=h
  have hr1:=hr.mono (show 1<=6 by decide)
  have hr4:=hr.mono (show 4<=6 by decide)
  refine a0 _ (c6 (i8 (ac1 De T.cl hr4 d4 (pv 0) (b0 (y1 (b0 (pv 1) c9)) c9)))
   (c6 (h9 (i:=2) aR2.nd rfl (Or.inl rfl) (aq7 Dp T.cl hr1 d4 (pv 0)))
   (c6 (i8 (aq7 Ds T.cl hr d4 (pv 0))) (d5 (i4 (pv 2)))))) ?_
  obtain ⟨hle,dx,t,tk,ho,ht,hkk⟩:=id hR
  refine a0 _ rfl (j4 r dx _ rfl ho.at_ (aw3 t tk _ (by decide +kernel)) (d8 _ rfl (by show 1<=sizeLine;decide) (fun q hq=>?_)))
  have e1:Ext [] G H _ _:=(Ext.refl sm).lay hq (o:=.tup [.str (L6 k)])
  have hR1:=hR.ext e1 (by simp)
  refine F5 _ r b p q ([k]) rfl e1.sub hR1 (.of c7) (fun z hz=>by rw [List.mem_singleton.mp hz];exact bd7 k hk) ?_
  rw [U2 k b p (K3 hk)] at kk
  rw [D9]
  by_cases hb:(g8 b p).1=.broken
  ·rw [if_pos hb] at kk ⊢;exact kk
  ·rw [if_neg hb] at kk ⊢
   have ea:([k].any fun k=>isK k (g8 b p).1)=isK k (g8 b p).1:=by simp
   rw [ea]
   cases hz:isK k (g8 b p).1 with
   | false=>rw [hz,if_neg (by decide)] at kk;rw [if_neg (by decide)];exact kk
   | true =>
    rw [hz,if_pos rfl] at kk
    rw [if_pos rfl]
    obtain ⟨_,dx1,t1,tk1,ho1,_,_⟩:=id hR1
    refine a0 _ rfl (j4 r dx1 _ rfl ho1.at_ (aw3 t1 tk1 _ (by decide +kernel)) (l7 _ r b p rfl e1.sub hR1 (fun v G2 H2 e2 hv=>?_)))
    have e12:=e1.trans e2
    have hR2:=hR1.ext e2 (by simp)
    obtain ⟨_,dx2,t2,tk2,ho2,_,_⟩:=id hR2
    refine a0 _ rfl (j4 r dx2 _ rfl ho2.at_ (aw3 t2 tk2 _ (by decide +kernel)) (l7 G2 r b p rfl e12.sub hR2 (fun G3 H3 e3 hR3=>(a0 _ rfl (kk _ _ _ ((e12.up (M:=[r])).trans e3) hR3 (Bl.mono _ _ _ _ e3.grow hv))))))
def bN7 (K:W.Frag)(CR:Addr):Sp:=fun vs H Q _=>∃ (G:Hp) (x dx:Addr) (a:V) (b:Bytes),vs=[.ref x,a]/\j6 G H/\Own G H x (.ins CR dx [])/\Bs K G a b/\∀ G' H',Ext [x] G H G' H'->A2 K CR G' H' x b 0->Q .non H'
theorem bO4:g9 ["self","text"] ["self","text"] (d7 S8):=⟨rfl,rfl,rfl,by decide +kernel,rfl,by decide +kernel,by decide +kernel⟩
theorem bP7 {f:Addr}{fd:FuncData}(F:Fun K "__init__" "Reader.__init__" S8 f fd)(T:Tr K mg CN CF CR)(Dt:Def prog w K mg base 5 "token_from" ["text","place"] (ai9 K)):l6 prog w K mg base (cxX prog w) 6 f fd ["self","text"] (bN7 K CR):=by
 refine F.okX bO4 (fun vs H Q E h=>?_) (fun cdv A outer s H vs Q E hr h=>?_)
 ·obtain ⟨G,x,dx,a,b,rfl,_⟩:=h;rfl
 ·obtain ⟨G,x,dx,_,b,rfl,sm,ho,⟨t,rfl,ht⟩,kk⟩:=h
  refine a0 _ (c6 (A0 (pv 0) (pv 1) rfl) (d5 (A0 (pv 0) (d9 Dt hr d4 (b0 (pv 1) (b0 g7 c9))) rfl))) ?_
  refine a0 _ rfl (a0 _ rfl (l0 x CR dx _ rfl ho.at_ T.cl T.nText (by show 0 < 1000;decide) ?_))
  have e0:Ext [x] G H G (upd H x (.ins CR dx (z9 "text" (.ref t) []))):=(Ext.refl sm).put (.inr (by simp)) ho.fr
  refine a0 _ rfl (j0 G _ b 0 rfl e0.sub (a0 t rfl ht) (Nat.zero_le _) (fun v G1 H1 e1 tv=>?_))
  obtain ⟨u,rfl,hu⟩:=tv
  have ho1:Own G1 H1 x (.ins CR dx (z9 "text" (.ref t) [])):=Own.ext ⟨c7,ho.fr⟩ e1 (by simp)
  refine a0 _ rfl (l0 x CR dx _ rfl ho1.at_ T.cl T.nToken (by show 1 < 1000;decide) ?_)
  have e2:Ext [x] G H G1 (upd H1 x (.ins CR dx (rf t u))):=(e0.tr0 e1).put (.inr (by simp)) ho1.fr
  exact kk _ _ e2 ⟨Nat.zero_le _,Z2 dx t u ⟨c7,ho1.fr⟩ (e1.grow.seq ht) hu⟩
end
end Th
set_option maxHeartbeats 2000000
namespace Th
open PySem PySem.Spec PyProof.Rows L2
open Ln (Bytes)
open Ln.Text (isDigit natural isLetter isMark tokenIn numberIn WORDS NAME P Lex)
open Ma (isK P5 l4 g8 Lx z6)
section
variable {K:W.Frag}{CR CF:Addr}{α β:Type}{R:Hp->V->β->Prop}{G H:Hp}{r:Addr}{b:Bytes}{p:Nat}{Q:VK}{E:XK}
def PQ (K:W.Frag)(CR CF:Addr)(m:P α)(R:Hp->V->α->Prop)(G H:Hp)(r:Addr)(b:Bytes)(p:Nat)(Q:VK)(E:XK):Prop:=match m (Lx b p) with
 | .ok (a,l')=>∀ v G' H' p',l'=Lx b p'->Ext [r] G H G' H'->A2 K CR G' H' r b p'->R G' v a->Q v H'
 | .error e=>af3 CF E e
theorem PQ.later {m:P β}{G1 H1:Hp}{p1:Nat}{k:P β}(h:PQ K CR CF m R G H r b p Q E)(hm:m (Lx b p)=k (Lx b p1))(e:Ext [r] G H G1 H1):PQ K CR CF k R G1 H1 r b p1 Q E:=by
 unfold PQ at h ⊢
 rw [hm] at h
 cases z:k (Lx b p1) with
 | error e=>rw [z] at h;exact h
 | ok x =>
  rw [z] at h
  exact fun v G' H' p' hl e' hR hr=>h v G' H' p' hl (e.trans e') hR hr
theorem PQ.bind {m:P α}{k:α->P β}{R1:Hp->V->α->Prop}{Q1:VK}(h:PQ K CR CF (m >>= k) R G H r b p Q E)
  (cont:∀ a v G1 H1 p1,m (Lx b p)=.ok (a,Lx b p1)->Ext [r] G H G1 H1->A2 K CR G1 H1 r b p1->R1 G1 v a->PQ K CR CF (k a) R G1 H1 r b p1 Q E->Q1 v H1):PQ K CR CF m R1 G H r b p Q1 E:=by
 have hb:=Ma.c8 m k (Lx b p)
 unfold PQ
 cases z:m (Lx b p) with
 | error e =>
  rw [z] at hb
  unfold PQ at h
  rw [hb] at h;exact h
 | ok x =>
  obtain ⟨a,l'⟩:=x
  rw [z] at hb
  intro v G' H' p' hl e hR hr
  have hl':l'=Lx b p':=hl
  subst hl'
  exact cont a v G' H' p' z e hR hr (h.later hb e)
theorem PQ.done {a:β}{v:V}(sm:j6 G H)(hR:A2 K CR G H r b p)(h:PQ K CR CF (pure a) R G H r b p Q E)(hv:R G v a):Q v H:=h v G H p rfl (Ext.refl sm) hR hv
theorem PQ.sees {k:Ma.K}{f:Bool->P β}(h:PQ K CR CF (Ma.sees k >>= f) R G H r b p Q E):PQ K CR CF (f (isK k (g8 b p).1)) R G H r b p Q E:=by
 unfold PQ at h ⊢
 have e:(Ma.sees k >>= f) (Lx b p)=f (isK k (g8 b p).1) (Lx b p):=by
  rw [Ma.c8]
  conv=>lhs;rw [Ma.B4]
  rw [Ma.y9]
  dsimp only
  rw [<-Ma.B4]
 rw [e] at h;exact h
theorem PQ.hd {f:Lex->P β}(h:PQ K CR CF (Ma.hd >>= f) R G H r b p Q E):PQ K CR CF (f ⟨l4 b p,(g8 b p).1⟩) R G H r b p Q E:=by
 unfold PQ at h ⊢
 have e:(Ma.hd >>= f) (Lx b p)=f ⟨l4 b p,(g8 b p).1⟩ (Lx b p):=by
  rw [Ma.c8]
  conv=>lhs;rw [Ma.B4]
  rw [Ma.aT3]
  dsimp only
  rw [<-Ma.B4]
 rw [e] at h;exact h
theorem PQ.expect {ks:List Ma.K}{f:Unit->P β}{Q1:Prop}(h:PQ K CR CF (Ma.expect ks >>= f) R G H r b p Q E)
  (cont:(g8 b p).1≠.broken->(ks.any fun k=>isK k (g8 b p).1)=true->PQ K CR CF (f ()) R G H r b p Q E->Q1):match Ma.expect ks (Lx b p) with
   | .ok _=>Q1
   | .error e=>af3 CF E e:=by
 have hb:=Ma.c8 (Ma.expect ks) f (Lx b p)
 have ha:=D9 ks b p
 unfold PQ at h
 by_cases h1:(g8 b p).1=.broken
 ·rw [if_pos h1] at ha
  rw [ha] at hb ⊢
  rw [hb] at h;exact h
 ·rw [if_neg h1] at ha
  by_cases h2:(ks.any fun k=>isK k (g8 b p).1)=true
  ·rw [if_pos h2] at ha
   rw [ha] at hb ⊢
   exact cont h1 h2 (by unfold PQ;rw [hb] at h;exact h)
  ·rw [if_neg h2] at ha
   rw [ha] at hb ⊢
   rw [hb] at h;exact h
theorem PQ.take {k:Ma.K}{f:Ln.Text.Tok->P β}{Q1:VK}(hk:k∈N4)(h:PQ K CR CF (Ma.x8 k >>= f) R G H r b p Q E)
  (cont:∀ v G1 H1,isK k (g8 b p).1=true->Ext [r] G H G1 H1->A2 K CR G1 H1 r b (l4 b p+(g8 b p).2)->Bl G1 v (ar0 b p)->PQ K CR CF (f (g8 b p).1) R G1 H1 r b (l4 b p+(g8 b p).2) Q E->Q1 v H1):match Ma.x8 k (Lx b p) with
   | .ok _=>∀ v G' H',Ext [r] G H G' H'->A2 K CR G' H' r b (l4 b p+(g8 b p).2)->Bl G' v (ar0 b p)->Q1 v H'
   | .error e=>af3 CF E e:=by
 have hb:=Ma.c8 (Ma.x8 k) f (Lx b p)
 have ha:=U2 k b p (K3 hk)
 by_cases h1:(g8 b p).1=.broken
 ·rw [if_pos h1] at ha
  rw [ha] at hb ⊢
  unfold PQ at h
  rw [hb] at h;exact h
 ·rw [if_neg h1] at ha
  by_cases h2:isK k (g8 b p).1=true
  ·rw [if_pos h2] at ha
   rw [ha] at hb ⊢
   exact fun v G' H' e hR hv=>cont v G' H' h2 e hR hv (h.later hb e)
  ·rw [if_neg h2] at ha
   rw [ha] at hb ⊢
   unfold PQ at h
   rw [hb] at h;exact h
theorem PQ.pass {f:Unit->P β}{G1 H1:Hp}(hn:z6 (g8 b p).1=false)(h:PQ K CR CF (Ln.Text.pass >>= f) R G H r b p Q E)(e:Ext [r] G H G1 H1):PQ K CR CF (f ()) R G1 H1 r b (l4 b p+(g8 b p).2) Q E:=by
 refine h.later ?_ e
 rw [Ma.c8,Ma.B8]
 dsimp only
 rw [Ma.B4 b p,hn,if_neg (by decide)];rfl
theorem PQ.refuse {n:Nat}(h:PQ K CR CF (Ma.refuse n:P β) R G H r b p Q E):af3 CF E (n,l4 b p):=by
 unfold PQ at h
 have e:(Ma.refuse n:P β) (Lx b p)=.error (n,l4 b p):=by rw [Ma.B4];rfl
 rw [e] at h;exact h
theorem D7 {k:Ma.K}(hk:k∈N4)(h:isK k (g8 b p).1=true):z6 (g8 b p).1=false:=by
 cases z:z6 (g8 b p).1 with
 | false=>rfl
 | true=>rw [K3 hk z] at h;cases h
end
section
variable {w:World}{K:W.Frag}{mg:Str->Option Value}{base:Heap}{CN CF CR:Addr}
def spM (K:W.Frag)(CR CF:Addr){α:Type}(m:P α)(R:Hp->V->α->Prop):Sp:=fun vs H Q E=>∃ (G:Hp) (r:Addr) (b:Bytes) (p:Nat),vs=[.ref r]/\j6 G H/\A2 K CR G H r b p/\PQ K CR CF m R G H r b p Q E
def Rq (K:W.Frag):Hp->V->Rat->Prop:=fun G v q=>Fr K G v q/\Ma.Sz 60 q
structure Rdr (w:World)(K:W.Frag)(mg:Str->Option Value)(base:Heap)(CR CF:Addr):Prop where
 sees:ad1 prog w K mg base 1 CR "sees" ["self","kind"] (aL7 K CR)
 piece:ad1 prog w K mg base 1 CR "piece" ["self"] (aA1 K CR)
 refuse:ad1 prog w K mg base 3 CR "refuse" ["self","kind"] (ap6 K CR CF)
 expect:ad1 prog w K mg base 4 CR "expect" ["self","kinds"] (ap7 K CR CF)
 step:ad1 prog w K mg base 6 CR "step" ["self"] (aL5 K CR)
 take:ad1 prog w K mg base 7 CR "take" ["self","kind"] (bf4 K CR CF)
theorem bP4 {b:Bytes}{p:Nat}:ar0 b p=(b.drop (l4 b p)).take (tokenIn (b.drop (l4 b p))).2:=rfl
theorem aI4 {t:Ln.Text.Tok}(h:isK .pointed t=true):∃ n k,t=.num n k true:=by
 cases t with
 | num n k pt=>cases pt with
  | true=>exact Z3 n k rfl
  | false=>cases h
 | _=>cases h
theorem aZ7 {t:Ln.Text.Tok}(h:isK .whole t=true):∃ n k,t=.num n k false:=by
 cases t with
 | num n k pt=>cases pt with
  | false=>exact Z3 n k rfl
  | true=>cases h
 | _=>cases h
theorem aM0:g9 ["reader","piece","point"] ["reader"] (d7 N7):=⟨rfl,rfl,rfl,by decide +kernel,rfl,by decide +kernel,by decide +kernel⟩
theorem bU5 {a:Bytes}(h:a.all isDigit=true){m:Nat}(hm:m < a.length):((a[m].toNat:Nat):Int)≠46:=by
 have:=bn8 (aU9 h hm)
 omega
theorem bH2 {f:Addr}{fd:FuncData}(F:Fun K "read_pointed" "read_pointed" N7 f fd)(T:Tr K mg CN CF CR)(D:Rdr w K mg base CR CF)(Dp:Def prog w K mg base 3 "pointed_value" ["front","back"] (aj0 K)):l6 prog w K mg base (cxX prog w) 8 f fd ["reader"] (spM K CR CF Ma.ag0 (Rq K)):=by
 refine F.okX aM0 (fun vs H Q E h=>?_) (fun cdv A outer s H vs Q E hr h=>?_)
 ·obtain ⟨G,r,b,p,rfl,_⟩:=h;rfl
 ·obtain ⟨G,r,b,p,rfl,sm,hR,kk⟩:=h
  have hr3:=hr.mono (show 3<=7 by decide)
  refine a0 _ (c6 (h9 (i:=1) aM0.nd rfl (Or.inl rfl) (ac1 D.take T.cl hr d4 (pv 0) (b0 i9 c9)))
   (c6 (h9 (i:=2) aM0.nd rfl (Or.inl rfl) (aw7 PySem.F.plainAttrs_list PySem.F.slot_list_index PySem.F.type_list_index bk5 (pv 1) (b0 (pgi T.point_) c9)))
   (d5 (i4 (d9 Dp hr3 d4 (b0 (E9 L0 (pv 1) X4 (D5 (pv 2))) (b0 (E9 L0 (pv 1) (D5 (i6 J3 (pv 2) g7)) X4) c9))))))) ?_
  obtain ⟨_,dx,t,tk,ho,_,_⟩:=id hR
  have hk:Ma.K.pointed∈N4:=by decide +kernel
  refine a0 _ rfl (j4 r dx _ rfl ho.at_ (aw3 t tk _ (by decide +kernel)) (z7 G r b p .pointed rfl sm hR hk (PQ.take hk kk fun v G1 H1 h1 e1 hR1 hv k1=>?_)))
  obtain ⟨u,rfl,hu⟩:=hv
  obtain ⟨n,k,ht⟩:=aI4 h1
  obtain ⟨x,y,hpc,hx,hy,hn,hz,hl⟩:=Ma.au2 (c:=b.drop (l4 b p)) ht
  rw [bP4,hpc] at hu
  have hu1:=e1.sub _ _ hu
  have hlen:(x++46::y).length=x.length+1+y.length:=by simp;omega
  have hat:(h8 (x++46::y))[x.length]?=some (.int 46):=by
   have hlt:x.length < (x++46::y).length:=by rw [hlen];omega
   rw [X9 hlt]
   rw [List.getElem_append_right (Nat.le_refl _)]
   simp
  refine d8 _ rfl (.inl ⟨rfl,j7 _ (SqL.of hu1)⟩) (m9 u _ (.int 46) x.length (.int 46) ⟨rfl,rfl,SqL.of hu1,rfl,?_,hat,rfl,?_,?_⟩)
  ·unfold h8;rw [List.all_map];exact List.all_eq_true.mpr fun _ _=>rfl
  ·intro m z' hm hz'
   have hlt:m < (x++46::y).length:=by rw [hlen];omega
   rw [X9 hlt,List.getElem_append_left hm] at hz'
   have:=Option.some.inj hz'
   subst this
   exact beq_eq_false_iff_ne.mpr (bU5 hx hm)
  ·refine a0 _ rfl (a0 _ rfl (a0 _ rfl (g6 u _ rfl (SqL.of hu1) (fun l hl1=>?_))))
   have hx1:Q0 (h8 (x++46::y)) none (some ((x.length:Nat):Int))=h8 x:=by
    rw [aO7 _ _ (by rw [hlen];omega)]
    rw [List.take_append_of_le_length (Nat.le_refl _),List.take_length]
   rw [hx1]
   have e2:=e1.lay hl1 (o:=.lst (h8 x))
   have hu2:=e2.sub _ _ (show upd G1 l _ u=_ by rw [d6 (i0 hu1 hl1)];exact hu)
   refine a0 _ rfl (a0 _ rfl (g6 _ _ rfl rfl (a0 _ rfl (g6 u _ rfl (SqL.of hu2) (fun l2 hl2=>?_)))))
   have hy1:Q0 (h8 (x++46::y)) (some (((x.length:Nat):Int)+1)) none=h8 y:=by
    have:=at3 (x++46::y) (x.length+1)
    have hd:(x++46::y).drop (x.length+1)=y:=by
     rw [<-List.drop_drop,List.drop_left];rfl
    rw [hd] at this
    exact this
   rw [hy1]
   have e3:=e2.lay hl2 (o:=.lst (h8 y))
   have ne:l≠l2:=i0 (c7 (H:=H1) (a:=l)) hl2
   refine K1 _ _ _ x y rfl e3.sub (a0 l rfl (by rw [d6 ne,c7])) (a0 l2 rfl c7) ?_ (by omega) (fun v G4 H4 e4 f4=>?_)
   ·rw [List.all_append,hx,hy];rfl
   ·have e34:Ext [r] G1 H1 G4 H4:=(((Ext.refl e1.sub).lay hl1).lay hl2).trans e4.up
    have hR4:=(hR1.ext (((Ext.refl e1.sub).lay hl1).lay hl2:Ext [] G1 H1 _ _) (by simp)).ext e4 (by simp)
    have k4:=k1.later (k:=pure ((Ma.ae4 (g8 b p).1:Rat) / (10 ^ Ma.bQ2 (g8 b p).1:Nat))) (p1:=l4 b p+(g8 b p).2) rfl e34
    have ht':(g8 b p).1=.num n k true:=ht
    rw [ht'] at k4
    refine PQ.done e4.sub hR4 k4 ⟨?_,?_⟩
    ·rw [hn,hz] at f4;exact f4
    ·refine Ma.be6 ?_ ?_ ?_
     ·have:=Ma.aw9 (l:=x++y) (by rw [List.all_append,hx,hy];rfl) (by rw [List.length_append];exact hl)
      show n < _
      rw [hn] at this;exact this
     ·show 10 ^ k < 2 ^ 60
      exact Nat.lt_of_le_of_lt (Nat.pow_le_pow_right (by decide) (by omega:k<=18)) (by decide)
     ·exact Nat.ne_of_gt (Nat.pow_pos (by decide))
end
end Th
set_option maxHeartbeats 2000000
namespace Th
open PySem PySem.Spec PyProof.Rows L2
open Ln (Bytes)
open Ln.Text (isDigit natural isLetter isMark tokenIn numberIn WORDS NAME P Lex)
open Ma (isK P5 l4 g8 Lx z6)
def tRd (C:Addr)(m:Str)(sp:Sp)(E:XK)(i:Nat)(t:TA):TE:=fun σ H Q=>∃ r,σ[i]?=some (some (.ref r))/\(∃ dx fs,H r=some (.ins C dx fs)/\fs.lookup m=none)/\t σ H fun vs H2=>sp (.ref r::vs) H2 Q E
theorem A2.m {K:W.Frag}{CR:Addr}{G H:Hp}{r:Addr}{b:Bytes}{p:Nat}(h:A2 K CR G H r b p){m:Str}(hm:m∈ag4):∃ dx fs,H r=some (.ins CR dx fs)/\fs.lookup m=none:=by
 obtain ⟨_,dx,t,tk,ho,_,_⟩:=h
 exact L8 dx _ ho.at_ (aw3 t tk m hm)
theorem m1:("sees" : Str)∈ag4:=by decide +kernel
theorem m2:("piece" : Str)∈ag4:=by decide +kernel
theorem m3:("refuse" : Str)∈ag4:=by decide +kernel
theorem m4:("expect" : Str)∈ag4:=by decide +kernel
theorem m5:("step" : Str)∈ag4:=by decide +kernel
theorem m6:("take" : Str)∈ag4:=by decide +kernel
section
variable {X:Cx}{k:Nat}{C:Addr}{m x:Str}{ps:List Str}{sp:Sp}{E:XK}{p1 apos pos:Pos}{e:Expr}{es:List Expr}{t:TA}{i:Nat}
theorem pmr {pl:Sem Bool}(D:ad1 X.prog X.w X.K X.mg X.base k C m ps sp)(c:Cls X.K C)(hr:C2 k X.A)(hx:B3 (cxX X.prog X.w) X E)(he:PE X (.Name x p1) (J9 i))(ha:PA X (e::es) t)
  (hst:starEach (e::es) X.env=(false,eval e X.env)::starEach es X.env:=by rfl) (hpl:(backTo pos (starEach es X.env)).any (·.1)=false:=by rfl)
  (ht:eval (.Call (.Attribute (.Name x p1) m apos) (e::es) [] pos) X.env=(do
   let ov ← eval (.Name x p1) X.env
   standAt apos.atName
   let (f,first) ← holding [ov] (getMethod ov m pl)
   callWith pos f first (backTo pos (starEach (e::es) X.env)) (backToKw pos (keywordEach [] X.env))):=by rfl) :
  PE X (.Call (.Attribute (.Name x p1) m apos) (e::es) [] pos) (tRd C m sp E i t):=by
 intro pins s σ H Q I ⟨r,e1,⟨dx,fs,e2,e3⟩,h⟩
 refine ac1 D c hr hx he ha hst hpl ht pins s σ H Q I (a0 _ e1 (j4 r dx fs rfl e2 e3 ?_))
 simp only [List.append_nil]
 exact h
theorem ag1 {pl:Sem Bool}(D:ad1 X.prog X.w X.K X.mg X.base k C m ps sp)(c:Cls X.K C)(hr:C2 k X.A)(hx:B3 (cxX X.prog X.w) X E)(he:PE X (.Name x p1) (J9 i))
  (ht:eval (.Call (.Attribute (.Name x p1) m apos) [] [] pos) X.env=(do
   let ov ← eval (.Name x p1) X.env
   standAt apos.atName
   let (f,first) ← holding [ov] (getMethod ov m pl)
   callWith pos f first (backTo pos (starEach [] X.env)) (backToKw pos (keywordEach [] X.env))):=by rfl) :
  PE X (.Call (.Attribute (.Name x p1) m apos) [] [] pos) (tRd C m sp E i am7):=by
 intro pins s σ H Q I ⟨r,e1,⟨dx,fs,e2,e3⟩,h⟩
 exact aq7 D c hr hx he ht pins s σ H Q I (a0 _ e1 (j4 r dx fs rfl e2 e3 h))
end
theorem aO5 {K:W.Frag}{G:Hp}{l:Addr}(n:Nat)(h:G l=some (.tup [.int (n:Int),.int 1])):Fr K G (.ref l) (n:Rat):=by
 refine a0 l rfl (.of ?_)
 rw [Rat.num_natCast,Rat.den_natCast];exact h
section
variable {w:World}{K:W.Frag}{mg:Str->Option Value}{base:Heap}{CN CF CR:Addr}
theorem aA9:g9 ["reader","top","bottom"] ["reader"] (d7 S0):=⟨rfl,rfl,rfl,by decide +kernel,rfl,by decide +kernel,by decide +kernel⟩
theorem bR0:∀ k∈[Ma.K.whole,Ma.K.pointed],k∈ad0:=by decide +kernel
theorem bU6:∀ k∈[Ma.K.whole],k∈ad0:=by decide +kernel
theorem ap1:Ma.K.whole∈N4:=by decide +kernel
theorem bd3:Ma.K.m 47∈N4:=by decide +kernel
theorem aE4 {b:Bytes}{p:Nat}(h:isK .whole (g8 b p).1=true):(ar0 b p).all isDigit=true/\natural (ar0 b p)=Ma.ae4 (g8 b p).1/\natural (ar0 b p) < 2 ^ 60:=by
 obtain ⟨n,k,ht⟩:=aZ7 h
 obtain ⟨h1,h2,h3⟩:=Ma.aF8 (c:=b.drop (l4 b p)) ht
 refine ⟨h1,?_,Ma.aw9 h1 h3⟩
 have:(g8 b p).1=.num n k false:=ht
 rw [this];exact h2
theorem bt7 {f:Addr}{fd:FuncData}(F:Fun K "read_number" "read_number" S0 f fd)(T:Tr K mg CN CF CR)(D:Rdr w K mg base CR CF)(Dp:Def prog w K mg base 8 "read_pointed" ["reader"] (spM K CR CF Ma.ag0 (Rq K)))(Dw:Def prog w K mg base 1 "whole_value" ["digits"] (an4 K))(Do:Def prog w K mg base 3 "over" ["x","y"] (sp2 K bp1 fun p q=>p / q)) :
  l6 prog w K mg base (cxX prog w) 9 f fd ["reader"] (spM K CR CF Ma.z8 (Rq K)):=by
 refine F.okX aA9 (fun vs H Q E h=>?_) (fun cdv A outer s H vs Q E hr h=>?_)
 ·obtain ⟨G,r,b,p,rfl,_⟩:=h;rfl
 ·obtain ⟨G,r,b,p,rfl,sm,hR,kk⟩:=h
  have hr1:=hr.mono (show 1<=8 by decide)
  have hr3:=hr.mono (show 3<=8 by decide)
  have hr4:=hr.mono (show 4<=8 by decide)
  have hr6:=hr.mono (show 6<=8 by decide)
  have hr7:=hr.mono (show 7<=8 by decide)
  refine a0 _ (c6 (i8 (pmr D.expect T.cl hr4 d4 (pv 0) (b0 (y1 (b0 i9 (b0 i9 c9))) c9)))
   (c6 (q0 (B7 (pmr D.sees T.cl hr1 d4 (pv 0) (b0 i9 c9))) (d5 (i4 (d9 Dp hr d4 (b0 (pv 0) c9)))) j3)
   (c6 (h9 (i:=1) aA9.nd rfl (Or.inl rfl) (d9 Dw hr1 d4 (b0 (pmr D.take T.cl hr7 d4 (pv 0) (b0 i9 c9)) c9)))
   (c6 (q0 (aq6 (B7 (pmr D.sees T.cl hr1 d4 (pv 0) (b0 i9 c9)))) (d5 (i4 (y1 (b0 (pv 1) (b0 g7 c9))))) j3)
   (c6 (i8 (ag1 D.step T.cl hr6 d4 (pv 0)))
   (c6 (i8 (pmr D.expect T.cl hr4 d4 (pv 0) (b0 (y1 (b0 i9 c9)) c9)))
   (c6 (h9 (i:=2) aA9.nd rfl (Or.inl rfl) (d9 Dw hr1 d4 (b0 (ag1 D.piece T.cl hr1 d4 (pv 0)) c9)))
   (c6 (q0 (j5 E0 (pv 2) g7 (j8 _)) (d5 (i8 (pmr D.refuse T.cl hr3 d4 (pv 0) (b0 (pgi T.k6) c9)))) j3)
   (c6 (i8 (ag1 D.step T.cl hr6 d4 (pv 0)))
   (d5 (i4 (d9 Do hr3 d4 (b0 (y1 (b0 (pv 1) (b0 g7 c9))) (b0 (y1 (b0 (pv 2) (b0 g7 c9))) c9)))))))))))))) ?_
  refine I0 r rfl (hR.m m4) (by show 2<=sizeLine;decide) (fun q hq=>?_)
  have e1:Ext [] G H _ _:=(Ext.refl sm).lay hq (o:=.tup [.str "whole",.str "pointed"])
  have hR1:=hR.ext e1 (by simp)
  replace kk:=kk.later (k:=Ma.z8) (p1:=p) rfl (e1.up (M:=[r]))
  unfold Ma.z8 at kk
  refine F5 _ r b p q ([.whole,.pointed]) rfl e1.sub hR1 (.of c7) bR0 (kk.expect fun hb1 hany k1=>?_)
  replace k1:=k1.sees
  generalize upd G q (.tup [.str "whole",.str "pointed"])=G1 at e1 hR1 k1
  generalize upd H q (.tup [.str "whole",.str "pointed"])=H1 at e1 hR1 k1
  refine d8 r rfl (hR1.m m1) (z7 G1 r b p .pointed rfl (by decide +kernel) e1.sub hR1 (a0 _ rfl (K0 (fun hp=>?_) (fun hp=>?_))))
  ·rw [hp,if_pos rfl] at k1
   exact a0 _ rfl (l7 G1 r b p rfl e1.sub hR1 k1)
  rw [hp,if_neg (by decide)] at k1
  refine d8 r rfl (hR1.m m6) (z7 G1 r b p .whole rfl e1.sub hR1 ap1 (k1.take ap1 fun v G2 H2 hw e2 hR2 hv k2=>?_))
  obtain ⟨w1,w2,w3⟩:=aE4 hw
  refine u0 G2 _ _ rfl e2.sub hv.bs w1 ?_
  rw [w2] at w3 ⊢
  generalize Ma.ae4 (g8 b p).1=n at w3 k2
  generalize l4 b p+(g8 b p).2=p2 at hR2 k2
  replace k2:=k2.sees
  refine d8 r rfl (hR2.m m1) (z7 G2 r b p2 (.m 47) rfl (by decide +kernel) e2.sub hR2 (a0 _ rfl ?_))
  cases hs:isK (.m 47) (g8 b p2).1 with
  | false =>
   rw [hs,if_pos rfl] at k2
   refine ag8 (d8 _ rfl (by show 2<=sizeLine;decide) (fun l hl=>?_))
   have e3:Ext [] G2 H2 _ _:=(Ext.refl e2.sub).lay hl (o:=.tup [.int (n:Int),.int 1])
   exact PQ.done e3.sub (hR2.ext e3 (by simp)) (k2.later rfl e3.up) ⟨aO5 n c7,Ma.aK9 w3⟩
  | true =>
  rw [hs,if_neg (by decide)] at k2
  refine aj9 ?_
  refine d8 r rfl (hR2.m m5) (l7 G2 r b p2 rfl e2.sub hR2 (fun G3 H3 e3 hR3=>?_))
  have k3:=k2.pass (D7 bd3 hs) e3
  generalize l4 b p2+(g8 b p2).2=p3 at hR3 k3
  refine I0 r rfl (hR3.m m4) (by show 1<=sizeLine;decide) (fun q2 hq2=>?_)
  have e4:Ext [] G3 H3 _ _:=(Ext.refl e3.sub).lay hq2 (o:=.tup [.str "whole"])
  have hR4:=hR3.ext e4 (by simp)
  have k4:=k3.later (p1:=p3) rfl (e4.up (M:=[r]))
  refine F5 _ r b p3 q2 ([.whole]) rfl e4.sub hR4 (.of c7) bU6 (k4.expect fun hb4 hany4 k5=>?_)
  have hw4:isK .whole (g8 b p3).1=true:=by simpa using hany4
  replace k5:=k5.hd
  generalize upd G3 q2 (.tup [.str "whole"])=G4 at e4 hR4 k5
  generalize upd H3 q2 (.tup [.str "whole"])=H4 at e4 hR4 k5
  refine d8 r rfl (hR4.m m2) (l7 G4 r b p3 rfl e4.sub hR4 (fun v5 G5 H5 e5 hv5=>?_))
  obtain ⟨x1,x2,x3⟩:=aE4 hw4
  have hR5:=hR4.ext e5 (by simp)
  refine u0 G5 _ _ rfl e5.sub hv5.bs x1 ?_
  rw [x2] at x3 ⊢
  have k6:=k5.later (p1:=p3) rfl (e5.up (M:=[r]))
  dsimp only at k6
  refine d8 _ rfl rfl (a0 _ rfl (K9 (fun h0=>?_) (fun h0=>?_)))
  ·rw [if_pos (show Ma.ae4 (g8 b p3).1=0 by omega)] at k6
   exact d8 r rfl (hR5.m m3) (Z1 G5 r b p3 6 rfl e5.sub hR5 k6.refuse)
  have h0':Ma.ae4 (g8 b p3).1≠0:=by omega
  rw [if_neg h0'] at k6
  generalize Ma.ae4 (g8 b p3).1=m at x3 k6 h0 h0'
  refine d8 r rfl (hR5.m m5) (l7 G5 r b p3 rfl e5.sub hR5 (fun G6 H6 e6 hR6=>?_))
  have k7:=k6.pass (D7 ap1 hw4) e6
  refine d8 _ rfl (by show 2<=sizeLine;decide) (fun l1 hl1=>?_)
  have e7:Ext [] G6 H6 _ _:=(Ext.refl e6.sub).lay hl1 (o:=.tup [.int (n:Int),.int 1])
  refine d8 _ rfl (by show 2<=sizeLine;decide) (fun l2 hl2=>?_)
  have e8:=e7.lay hl2 (o:=.tup [.int (m:Int),.int 1])
  have ne:l1≠l2:=i0 (c7 (H:=H6) (a:=l1)) hl2
  refine j1 _ _ _ (n:Rat) (m:Rat) rfl e8.sub (aO5 n (by rw [d6 ne,c7])) (aO5 m c7) ⟨(Ma.aK9 w3).mono (by decide),(Ma.aK9 x3).mono (by decide),?_⟩ (fun v9 G9 H9 e9 f9=>?_)
  ·intro z
   exact h0' (by exact_mod_cast z)
  ·have e10:Ext [] G6 H6 G9 H9:=e8.trans e9
   exact PQ.done e9.sub (hR6.ext e10 (by simp)) (k7.later rfl e10.up) ⟨f9,Ma.be6 w3 x3 h0'⟩
end
end Th
set_option maxHeartbeats 2000000
namespace Th
open PySem PySem.Spec PyProof.Rows L2
open Ln (Bytes)
open Ln.Text (isDigit natural isLetter isMark tokenIn numberIn WORDS NAME P Lex)
open Ma (isK P5 l4 g8 Lx z6)
theorem ay8 (bad:Bool)(ks:List Ma.K)(b:Bytes)(p:Nat):Ma.B5 bad ks (Lx b p)=if (g8 b p).1=.broken then .error (1,l4 b p) else if (ks.any fun k=>isK k (g8 b p).1)=true then (if bad=true then .error (6,l4 b p) else .ok ((),Lx b p)) else .error (2,l4 b p):=by
 rw [Ma.B4,Ma.Y0]
theorem PQ.before {K:W.Frag}{CR CF:Addr}{β:Type}{R:Hp->V->β->Prop}{G H:Hp}{r:Addr}{b:Bytes}{p:Nat}{Q:VK}{E:XK}{bad:Bool}{ks:List Ma.K}{f:Unit->P β}{Q1:Prop}(h:PQ K CR CF (Ma.B5 bad ks >>= f) R G H r b p Q E)
  (cont:(g8 b p).1≠.broken->(ks.any fun k=>isK k (g8 b p).1)=true->bad=false->PQ K CR CF (f ()) R G H r b p Q E->Q1):match Ma.B5 bad ks (Lx b p) with
   | .ok _=>Q1
   | .error e=>af3 CF E e:=by
 have hb:=Ma.c8 (Ma.B5 bad ks) f (Lx b p)
 have ha:=ay8 bad ks b p
 unfold PQ at h
 by_cases h1:(g8 b p).1=.broken
 ·rw [if_pos h1] at ha
  rw [ha] at hb ⊢
  rw [hb] at h;exact h
 ·rw [if_neg h1] at ha
  by_cases h2:(ks.any fun k=>isK k (g8 b p).1)=true
  ·rw [if_pos h2] at ha
   cases bad with
   | true =>
    rw [if_pos rfl] at ha
    rw [ha] at hb ⊢
    rw [hb] at h;exact h
   | false =>
    rw [if_neg (by decide)] at ha
    rw [ha] at hb ⊢
    exact cont h1 h2 rfl (by unfold PQ;rw [hb] at h;exact h)
  ·rw [if_neg h2] at ha
   rw [ha] at hb ⊢
   rw [hb] at h;exact h
theorem N5 {n:Nat}{r:Rat}(h:Ma.Sz n r)(h0:r≠0):Ma.Sz n (1 / r):=by
 rw [Ma.aO6 1 r h0]
 refine Ma.Sz.div ?_ ?_ ?_
 ·show ((1:Rat).num*(r.den:Int)).natAbs < _
  rw [show (1:Rat).num=1 from rfl,Int.one_mul];exact h.2
 ·show (((1:Rat).den:Int)*r.num).natAbs < _
  rw [show (((1:Rat).den:Nat):Int)=1 from rfl,Int.one_mul];exact h.1
 ·rw [show (((1:Rat).den:Nat):Int)=1 from rfl,Int.one_mul]
  exact fun z=>h0 (Rat.num_eq_zero.mp z)
theorem bJ4 (q:Rat):decide (q.num < (q.den:Int))=decide (q < 1):=decide_eq_decide.mpr (by
 rw [Rat.lt_iff]
 show _↔q.num*(1:Int) < 1*(q.den:Int)
 rw [Int.mul_one,Int.one_mul])
theorem aT8 (q:Rat):decide (V.int q.num=V.int 0)=decide (q=0):=decide_eq_decide.mpr ⟨fun h=>Rat.num_eq_zero.mp (V.int.inj h),fun h=>by rw [h];rfl⟩
section
variable {w:World}{K:W.Frag}{mg:Str->Option Value}{base:Heap}{CN CF CR:Addr}
theorem br2:g9 ["reader"] ["reader"] (d7 W1):=⟨rfl,rfl,rfl,by decide +kernel,rfl,by decide +kernel,by decide +kernel⟩
theorem bt6 {f:Addr}{fd:FuncData}(F:Fun K "read_value" "read_value" W1 f fd)(T:Tr K mg CN CF CR)(D:Rdr w K mg base CR CF)(Dn:Def prog w K mg base 9 "read_number" ["reader"] (spM K CR CF Ma.z8 (Rq K)))(Dg:Def prog w K mg base 1 "negative" ["x"] (sp1 K (fun _=>True) fun p=>-p)) :
  l6 prog w K mg base (cxX prog w) 10 f fd ["reader"] (spM K CR CF Ma.S9 (Rq K)):=by
 refine F.okX br2 (fun vs H Q E h=>?_) (fun cdv A outer s H vs Q E hr h=>?_)
 ·obtain ⟨G,r,b,p,rfl,_⟩:=h;rfl
 ·obtain ⟨G,r,b,p,rfl,sm,hR,kk⟩:=h
  have hr1:=hr.mono (show 1<=9 by decide)
  have hr6:=hr.mono (show 6<=9 by decide)
  refine a0 _ (c6 (q0 (aq6 (B7 (pmr D.sees T.cl hr1 d4 (pv 0) (b0 i9 c9)))) (d5 (i4 (d9 Dn hr d4 (b0 (pv 0) c9)))) j3)
   (c6 (i8 (ag1 D.step T.cl hr6 d4 (pv 0))) (d5 (i4 (d9 Dg hr1 d4 (b0 (d9 Dn hr d4 (b0 (pv 0) c9)) c9)))))) ?_
  unfold Ma.S9 at kk
  replace kk:=kk.sees
  refine d8 r rfl (hR.m m1) (z7 G r b p (.m 45) rfl (by decide +kernel) sm hR (a0 _ rfl ?_))
  cases hs:isK (.m 45) (g8 b p).1 with
  | false =>
   rw [hs,if_pos rfl] at kk
   exact ag8 (a0 _ rfl (l7 G r b p rfl sm hR kk))
  | true =>
   rw [hs,if_neg (by decide)] at kk
   refine aj9 (d8 r rfl (hR.m m5) (l7 G r b p rfl sm hR (fun G1 H1 e1 hR1=>?_)))
   have k1:=kk.pass (D7 (k:=.m 45) (by decide +kernel) hs) e1
   refine a0 _ rfl (l7 G1 r b _ rfl e1.sub hR1 (k1.bind fun q v G2 H2 p2 _ e2 hR2 hv k2=>?_))
   refine u0 G2 _ q rfl e2.sub hv.1 trivial (fun v3 G3 H3 e3 f3=>?_)
   exact PQ.done e3.sub (hR2.ext e3 (by simp)) (k2.later rfl e3.up) ⟨f3,hv.2.neg⟩
def af6 (K:W.Frag)(CR CF:Addr):Sp:=fun vs H Q E=>∃ (G:Hp) (r:Addr) (b:Bytes) (p:Nat) (bad:Bool) (kp:Addr) (ks:List Ma.K),vs=[.ref r,.bl bad,.ref kp]/\j6 G H/\A2 K CR G H r b p/\SqT K H kp (ks.map fun k=>V.str (L6 k))/\(∀ k∈ks,k∈ad0) /\
 match Ma.B5 bad ks (Lx b p) with
 | .ok _=>Q .non H
 | .error e=>af3 CF E e
theorem bE4:g9 ["reader","refused","behind"] ["reader","refused","behind"] (d7 B9):=⟨rfl,rfl,rfl,by decide +kernel,rfl,by decide +kernel,by decide +kernel⟩
theorem bI7 {f:Addr}{fd:FuncData}(F:Fun K "refuse_number_before" "refuse_number_before" B9 f fd)(T:Tr K mg CN CF CR)(D:Rdr w K mg base CR CF):l6 prog w K mg base (cxX prog w) 5 f fd ["reader","refused","behind"] (af6 K CR CF):=by
 refine F.okX bE4 (fun vs H Q E h=>?_) (fun cdv A outer s H vs Q E hr h=>?_)
 ·obtain ⟨G,r,b,p,bad,kp,ks,rfl,_⟩:=h;rfl
 ·obtain ⟨G,r,b,p,bad,kp,ks,rfl,sm,hR,hks,hall,kk⟩:=h
  have hr3:=hr.mono (show 3<=4 by decide)
  refine a0 _ (c6 (i8 (pmr D.expect T.cl hr d4 (pv 0) (b0 (pv 2) c9))) (d5 (q0 (B7 (pv 1)) (d5 (i8 (pmr D.refuse T.cl hr3 d4 (pv 0) (b0 (pgi T.k6) c9)))) j3))) ?_
  refine d8 r rfl (hR.m m4) (a0 _ rfl (F5 G r b p kp ks rfl sm hR hks hall ?_))
  rw [ay8] at kk
  rw [D9]
  by_cases h1:(g8 b p).1=.broken
  ·rw [if_pos h1] at kk ⊢;exact kk
  ·rw [if_neg h1] at kk ⊢
   by_cases h2:(ks.any fun k=>isK k (g8 b p).1)=true
   ·rw [if_pos h2] at kk ⊢
    refine a0 _ rfl (a0 _ rfl (K0 (fun h3=>?_) (fun h3=>?_)))
    ·subst h3
     exact d8 r rfl (hR.m m3) (Z1 G r b p 6 rfl sm hR kk)
    ·subst h3
     exact kk
   ·rw [if_neg h2] at kk ⊢;exact kk
def RqI (K:W.Frag):Hp->V->Rat->Prop:=fun G v q=>Rq K G v q/\1<=q
def aQ5 (K:W.Frag)(CR CF:Addr):Sp:=fun vs H Q E=>∃ (G:Hp) (r:Addr) (b:Bytes) (p:Nat) (c:UInt8),vs=[.ref r,.str (L6 (.m c))]/\c∈P3/\j6 G H/\A2 K CR G H r b p/\PQ K CR CF (Ma.T0 c) (RqI K) G H r b p Q E
theorem aH3:∀ c∈P3,Ma.K.m c∈ad0/\Ma.K.m c∈N4:=by decide +kernel
theorem aR3:g9 ["reader","mark","index"] ["reader","mark"] (d7 W2):=⟨rfl,rfl,rfl,by decide +kernel,rfl,by decide +kernel,by decide +kernel⟩
theorem bt8 {f:Addr}{fd:FuncData}(F:Fun K "read_index" "read_index" W2 f fd)(T:Tr K mg CN CF CR)(D:Rdr w K mg base CR CF)(Dn:Def prog w K mg base 9 "read_number" ["reader"] (spM K CR CF Ma.z8 (Rq K)))(Db:Def prog w K mg base 5 "refuse_number_before" ["reader","refused","behind"] (af6 K CR CF)) :
  l6 prog w K mg base (cxX prog w) 10 f fd ["reader","mark"] (aQ5 K CR CF):=by
 refine F.okX aR3 (fun vs H Q E h=>?_) (fun cdv A outer s H vs Q E hr h=>?_)
 ·obtain ⟨G,r,b,p,c,rfl,_⟩:=h;rfl
 ·obtain ⟨G,r,b,p,c,rfl,hc,sm,hR,kk⟩:=h
  have hr5:=hr.mono (show 5<=9 by decide)
  have hr6:=hr.mono (show 6<=9 by decide)
  refine a0 _ (c6 (h9 (i:=2) aR3.nd rfl (Or.inl rfl) (d9 Dn hr d4 (b0 (pv 0) c9)))
   (c6 (i8 (d9 Db hr5 d4 (b0 (pv 0) (b0 (Q6 ar3 (px 2 (pv 2)) (px 2 (pv 2)) (j8 _)) (b0 (y1 (b0 (pv 1) c9)) c9)))))
   (c6 (i8 (ag1 D.step T.cl hr6 d4 (pv 0))) (d5 (i4 (pv 2)))))) ?_
  unfold Ma.T0 at kk
  refine a0 _ rfl (l7 G r b p rfl sm hR (kk.bind fun q v G1 H1 p1 _ e1 hR1 hv k1=>?_))
  obtain ⟨⟨u,rfl,hu⟩,hsz⟩:=hv
  refine a0 _ rfl (j4 u _ _ rfl (e1.sub.seqT hu) rfl (j4 u _ _ rfl (e1.sub.seqT hu) rfl (g6 _ _ rfl rfl (d8 _ rfl (by show 1<=sizeLine;decide) (fun l hl=>?_)))))
  have e2:Ext [] G1 H1 _ _:=(Ext.refl e1.sub).lay hl (o:=.tup [.str (L6 (.m c))])
  have hR2:=hR1.ext e2 (by simp)
  have k2:=k1.later (p1:=p1) rfl (e2.up (M:=[r]))
  refine Z0 _ r b p1 (decide (q < 1)) l ([.m c]) (by rw [<-bJ4];rfl) e2.sub hR2 (.of c7) (fun z hz=>by rw [List.mem_singleton.mp hz];exact (aH3 c hc).1) (k2.before fun _ hany hbad k3=>?_)
  have hm:isK (.m c) (g8 b p1).1=true:=by simpa using hany
  refine d8 r rfl (hR2.m m5) (l7 _ r b p1 rfl e2.sub hR2 (fun G3 H3 e3 hR3=>(a0 _ rfl ?_)))
  have k4:=k3.pass (D7 (aH3 c hc).2 hm) e3
  refine PQ.done e3.sub hR3 k4 ⟨⟨(a0 u rfl (e3.grow.seqT (e2.grow.seqT hu))),hsz⟩,?_⟩
  exact Rat.not_lt.mp (of_decide_eq_false hbad)
end
end Th
set_option maxHeartbeats 2000000
namespace Th
open PySem PySem.Spec PyProof.Rows L2
open Ln (Bytes)
open Ln.Text (isDigit natural isLetter isMark tokenIn numberIn WORDS NAME P Lex)
open Ma (isK P5 l4 g8 Lx z6)
structure Tq (K:W.Frag)(mg:Str->Option Value):Prop where
 zero_:GT K mg "ZERO" [.int 0,.int 1]
 one_:GT K mg "ONE" [.int 1,.int 1]
theorem sz0:Ma.Sz 60 0:=⟨by decide,by decide⟩
theorem sz1:Ma.Sz 60 1:=⟨by decide,by decide⟩
section
variable {w:World}{K:W.Frag}{mg:Str->Option Value}{base:Heap}{CN CF CR:Addr}
theorem aR4:g9 ["reader","radius"] ["reader"] (d7 W4):=⟨rfl,rfl,rfl,by decide +kernel,rfl,by decide +kernel,by decide +kernel⟩
theorem bt9 {f:Addr}{fd:FuncData}(F:Fun K "read_curve" "read_curve" W4 f fd)(T:Tr K mg CN CF CR)(Z:Tq K mg)(D:Rdr w K mg base CR CF)(Dv:Def prog w K mg base 10 "read_value" ["reader"] (spM K CR CF Ma.S9 (Rq K)))(Db:Def prog w K mg base 5 "refuse_number_before" ["reader","refused","behind"] (af6 K CR CF))(Do:Def prog w K mg base 3 "over" ["x","y"] (sp2 K bp1 fun p q=>p / q)) :
  l6 prog w K mg base (cxX prog w) 11 f fd ["reader"] (spM K CR CF Ma.O7 (Rq K)):=by
 refine F.okX aR4 (fun vs H Q E h=>?_) (fun cdv A outer s H vs Q E hr h=>?_)
 ·obtain ⟨G,r,b,p,rfl,_⟩:=h;rfl
 ·obtain ⟨G,r,b,p,rfl,sm,hR,kk⟩:=h
  have hr1:=hr.mono (show 1<=10 by decide)
  have hr3:=hr.mono (show 3<=10 by decide)
  have hr4:=hr.mono (show 4<=10 by decide)
  have hr5:=hr.mono (show 5<=10 by decide)
  have hr6:=hr.mono (show 6<=10 by decide)
  obtain ⟨aZ,mZ,hZ⟩:=Z.zero_
  obtain ⟨aO,mO,hO⟩:=Z.one_
  refine a0 _ (c6 (i8 (pmr D.expect T.cl hr4 d4 (pv 0) (b0 (y1 (b0 i9 (b0 i9 (b0 i9 c9)))) c9)))
   (c6 (q0 (B7 (pmr D.sees T.cl hr1 d4 (pv 0) (b0 i9 c9))) (c6 (i8 (ag1 D.step T.cl hr6 d4 (pv 0))) (d5 (i4 (A6 (v:=.ref aZ) (by rfl) mZ rfl)))) j3)
   (c6 (q0 (B7 (pmr D.sees T.cl hr1 d4 (pv 0) (b0 i9 c9))) (c6 (i8 (ag1 D.step T.cl hr6 d4 (pv 0))) (d5 (i4 (d9 Dv hr d4 (b0 (pv 0) c9))))) j3)
   (c6 (i8 (ag1 D.step T.cl hr6 d4 (pv 0)))
   (c6 (h9 (i:=1) aR4.nd rfl (Or.inl rfl) (d9 Dv hr d4 (b0 (pv 0) c9)))
   (c6 (i8 (d9 Db hr5 d4 (b0 (pv 0) (b0 (Q6 E0 (px 1 (pv 1)) g7 (j8 _)) (b0 (y1 (b0 i9 (b0 i9 (b0 i9 c9)))) c9)))))
   (d5 (i4 (d9 Do hr3 d4 (b0 (A6 (v:=.ref aO) (by rfl) mO rfl) (b0 (pv 1) c9))))))))))) ?_
  refine I0 r rfl (hR.m m4) (by show 3<=sizeLine;decide) (fun q hq=>?_)
  have e1:Ext [] G H _ _:=(Ext.refl sm).lay hq (o:=.tup [.str "flat",.str "curve",.str "radius"])
  have hR1:=hR.ext e1 (by simp)
  replace kk:=kk.later (k:=Ma.O7) (p1:=p) rfl (e1.up (M:=[r]))
  unfold Ma.O7 at kk
  refine F5 _ r b p q ([.w "flat",.w "curve",.w "radius"]) rfl e1.sub hR1 (.of c7) (by decide +kernel) (kk.expect fun hb1 hany k1=>?_)
  replace k1:=k1.sees
  generalize upd G q (.tup [.str "flat",.str "curve",.str "radius"])=G1 at e1 hR1 k1
  generalize upd H q (.tup [.str "flat",.str "curve",.str "radius"])=H1 at e1 hR1 k1
  refine d8 r rfl (hR1.m m1) (z7 G1 r b p (.w "flat") rfl (by decide +kernel) e1.sub hR1 (a0 _ rfl (K0 (fun hf=>?_) (fun hf=>?_))))
  ·rw [hf,if_pos rfl] at k1
   refine d8 r rfl (hR1.m m5) (l7 G1 r b p rfl e1.sub hR1 (fun G2 H2 e2 hR2=>?_))
   have k2:=k1.pass (D7 (k:=.w "flat") (by decide +kernel) hf) e2
   exact PQ.done (v:=.ref aZ) e2.sub hR2 k2 ⟨(a0 aZ rfl (hZ _)),sz0⟩
  rw [hf,if_neg (by decide)] at k1
  replace k1:=k1.sees
  refine d8 r rfl (hR1.m m1) (z7 G1 r b p (.w "curve") rfl (by decide +kernel) e1.sub hR1 (a0 _ rfl (K0 (fun hc=>?_) (fun hc=>?_))))
  ·rw [hc,if_pos rfl] at k1
   refine d8 r rfl (hR1.m m5) (l7 G1 r b p rfl e1.sub hR1 (fun G2 H2 e2 hR2=>?_))
   have k2:=k1.pass (D7 (k:=.w "curve") (by decide +kernel) hc) e2
   exact a0 _ rfl (l7 G2 r b _ rfl e2.sub hR2 k2)
  rw [hc,if_neg (by decide)] at k1
  have hrad:isK (.w "radius") (g8 b p).1=true:=by
   simp only [List.any_cons,List.any_nil,hf,hc,Bool.false_or,Bool.or_false] at hany
   exact hany
  refine d8 r rfl (hR1.m m5) (l7 G1 r b p rfl e1.sub hR1 (fun G2 H2 e2 hR2=>?_))
  have k2:=k1.pass (D7 (k:=.w "radius") (by decide +kernel) hrad) e2
  refine a0 _ rfl (l7 G2 r b _ rfl e2.sub hR2 (k2.bind fun ρ v G3 H3 p3 _ e3 hR3 hv k3=>?_))
  obtain ⟨⟨u,rfl,hu⟩,hsz⟩:=hv
  refine a0 _ rfl (G0 u _ _ ⟨rfl,e3.sub.seqT hu,rfl,rfl,(by show 3<=sizeLine;decide),fun l hl=>?_⟩)
  have e4:Ext [] G3 H3 _ _:=(Ext.refl e3.sub).lay hl (o:=.tup [.str "conic",.str "clear",.str ";"])
  have hR4:=hR3.ext e4 (by simp)
  have k4:=k3.later (p1:=p3) rfl (e4.up (M:=[r]))
  refine Z0 _ r b p3 (decide (ρ=0)) l ([.w "conic",.w "clear",.m 59]) (by rw [<-aT8];rfl) e4.sub hR4 (.of c7) (by decide +kernel) (k4.before fun _ _ hbad k5=>?_)
  have h0:ρ≠0:=of_decide_eq_false hbad
  refine a0 _ rfl (j1 _ _ _ 1 ρ rfl e4.sub (a0 aO rfl (hO _)) (a0 u rfl (e4.grow.seqT hu)) ⟨sz1.mono (by decide),hsz.mono (by decide),h0⟩ (fun v6 G6 H6 e6 f6=>?_))
  exact PQ.done e6.sub (hR4.ext e6 (by simp)) (k5.later rfl e6.up) ⟨f6,N5 hsz h0⟩
theorem br3:g9 ["reader"] ["reader"] (d7 W5):=⟨rfl,rfl,rfl,by decide +kernel,rfl,by decide +kernel,by decide +kernel⟩
theorem bu0 {f:Addr}{fd:FuncData}(F:Fun K "read_conic" "read_conic" W5 f fd)(T:Tr K mg CN CF CR)(Z:Tq K mg)(D:Rdr w K mg base CR CF)(Dv:Def prog w K mg base 10 "read_value" ["reader"] (spM K CR CF Ma.S9 (Rq K))) :
  l6 prog w K mg base (cxX prog w) 11 f fd ["reader"] (spM K CR CF Ma.T3 (Rq K)):=by
 refine F.okX br3 (fun vs H Q E h=>?_) (fun cdv A outer s H vs Q E hr h=>?_)
 ·obtain ⟨G,r,b,p,rfl,_⟩:=h;rfl
 ·obtain ⟨G,r,b,p,rfl,sm,hR,kk⟩:=h
  have hr1:=hr.mono (show 1<=10 by decide)
  have hr6:=hr.mono (show 6<=10 by decide)
  obtain ⟨aZ,mZ,hZ⟩:=Z.zero_
  refine a0 _ (c6 (q0 (aq6 (B7 (pmr D.sees T.cl hr1 d4 (pv 0) (b0 i9 c9)))) (d5 (i4 (A6 (v:=.ref aZ) (by rfl) mZ rfl))) j3)
   (c6 (i8 (ag1 D.step T.cl hr6 d4 (pv 0))) (d5 (i4 (d9 Dv hr d4 (b0 (pv 0) c9)))))) ?_
  unfold Ma.T3 at kk
  replace kk:=kk.sees
  refine d8 r rfl (hR.m m1) (z7 G r b p (.w "conic") rfl (by decide +kernel) sm hR (a0 _ rfl ?_))
  cases hs:isK (.w "conic") (g8 b p).1 with
  | false =>
   rw [hs,if_pos rfl] at kk
   exact ag8 (PQ.done (v:=.ref aZ) sm hR kk ⟨(a0 aZ rfl (hZ _)),sz0⟩)
  | true =>
   rw [hs,if_neg (by decide)] at kk
   refine aj9 (d8 r rfl (hR.m m5) (l7 G r b p rfl sm hR (fun G1 H1 e1 hR1=>?_)))
   have k1:=kk.pass (D7 (k:=.w "conic") (by decide +kernel) hs) e1
   exact a0 _ rfl (l7 G1 r b _ rfl e1.sub hR1 k1)
theorem aR5:g9 ["reader","clear"] ["reader"] (d7 W6):=⟨rfl,rfl,rfl,by decide +kernel,rfl,by decide +kernel,by decide +kernel⟩
theorem bu2 {f:Addr}{fd:FuncData}(F:Fun K "pass_clear" "pass_clear" W6 f fd)(T:Tr K mg CN CF CR)(D:Rdr w K mg base CR CF)(Dn:Def prog w K mg base 9 "read_number" ["reader"] (spM K CR CF Ma.z8 (Rq K)))(Db:Def prog w K mg base 5 "refuse_number_before" ["reader","refused","behind"] (af6 K CR CF)) :
  l6 prog w K mg base (cxX prog w) 10 f fd ["reader"] (spM K CR CF Ma.F3 (fun _ v _=>v=.non)):=by
 refine F.okX aR5 (fun vs H Q E h=>?_) (fun cdv A outer s H vs Q E hr h=>?_)
 ·obtain ⟨G,r,b,p,rfl,_⟩:=h;rfl
 ·obtain ⟨G,r,b,p,rfl,sm,hR,kk⟩:=h
  have hr1:=hr.mono (show 1<=9 by decide)
  have hr5:=hr.mono (show 5<=9 by decide)
  have hr6:=hr.mono (show 6<=9 by decide)
  refine a0 _ (d5 (q0 (B7 (pmr D.sees T.cl hr1 d4 (pv 0) (b0 i9 c9)))
   (c6 (i8 (ag1 D.step T.cl hr6 d4 (pv 0))) (c6 (h9 (i:=1) aR5.nd rfl (Or.inl rfl) (d9 Dn hr d4 (b0 (pv 0) c9)))
   (d5 (i8 (d9 Db hr5 d4 (b0 (pv 0) (b0 (Q6 E0 (px 1 (pv 1)) g7 (j8 _)) (b0 (y1 (b0 i9 c9)) c9)))))))) j3)) ?_
  unfold Ma.F3 at kk
  replace kk:=kk.sees
  refine d8 r rfl (hR.m m1) (z7 G r b p (.w "clear") rfl (by decide +kernel) sm hR (a0 _ rfl (K0 (fun hs=>?_) (fun hs=>?_))))
  ·rw [hs,if_pos rfl] at kk
   refine d8 r rfl (hR.m m5) (l7 G r b p rfl sm hR (fun G1 H1 e1 hR1=>?_))
   have k1:=kk.pass (D7 (k:=.w "clear") (by decide +kernel) hs) e1
   refine a0 _ rfl (l7 G1 r b _ rfl e1.sub hR1 (k1.bind fun ρ v G3 H3 p3 _ e3 hR3 hv k3=>?_))
   obtain ⟨⟨u,rfl,hu⟩,hsz⟩:=hv
   refine a0 _ rfl (G0 u _ _ ⟨rfl,e3.sub.seqT hu,rfl,rfl,(by show 1<=sizeLine;decide),fun l hl=>?_⟩)
   have e4:Ext [] G3 H3 _ _:=(Ext.refl e3.sub).lay hl (o:=.tup [.str ";"])
   have hR4:=hR3.ext e4 (by simp)
   have k4:=k3.later (p1:=p3) rfl (e4.up (M:=[r]))
   exact Z0 _ r b p3 (decide (ρ=0)) l ([.m 59]) (by rw [<-aT8];rfl) e4.sub hR4 (.of c7) (by decide +kernel) (k4.before fun _ _ _ k5=>PQ.done e4.sub hR4 k5 rfl)
  ·rw [hs,if_neg (by decide)] at kk
   exact PQ.done sm hR kk rfl
end
end Th
set_option maxHeartbeats 2000000
namespace Th
open PySem PySem.Spec PyProof.Rows L2
open Ln (Bytes Glass Elem System_ Kind)
open Ln.Text (isDigit natural isLetter isMark tokenIn numberIn WORDS NAME P Lex)
open Ma (isK P5 l4 g8 Lx z6)
def key (b:Bytes):List Key:=(y6 b).map Sum.inl
theorem as3 (b:Bytes):(key b).map kV=h8 b:=by
 unfold key
 rw [List.map_map,F9];rfl
theorem aS9 {a b:Bytes}(h:key a=key b):a=b:=by
 refine U9 ?_
 have:=congrArg (List.map kV) h
 rw [as3,as3,F9,F9] at this
 have key2:∀ {l m:List Int},l.map V.int=m.map V.int->l=m:=by
  intro l
  induction l with
  | nil=>intro m h;cases m with
   | nil=>rfl
   | cons=>cases h
  | cons a l ih=>intro m h;cases m with
   | nil=>cases h
   | cons c m =>
    have:=List.cons.inj h
    rw [V.int.inj this.1,ih this.2]
 exact key2 this
def an0 (kvs:List (List Key×V))(ns:List Bytes):Prop:=kvs.map (·.1)=ns.map key
theorem an0.some_iff:∀ {kvs:List (List Key×V)}{ns:List Bytes},an0 kvs ns->∀ b:Bytes,(P8 kvs (key b)).isSome=ns.any fun n=>n == b
 | [],[],_,b=>rfl
 | [],_::_,h,b=>by cases h
 | _::_,[],h,b=>by cases h
 | kv::kvs,n::ns,h,b=>by
  have h':=List.cons.inj (show kv.1::kvs.map (·.1)=key n::ns.map key from h)
  have ih:=an0.some_iff (kvs:=kvs) (ns:=ns) h'.2 b
  show (P8 (kv::kvs) (key b)).isSome=(n == b || ns.any fun n=>n == b)
  by_cases e:n=b
  ·rw [Z4 (by rw [h'.1,e])];simp [e]
  ·rw [Z5 (fun z=>e (aS9 (h'.1.symm.trans z))),ih];simp [e]
def Tri (K:W.Frag)(G:Hp)(v:V)(l:List Rat):Prop:=Tp K (Fr K) G v l
theorem Tri.mono {K:W.Frag}{G G':Hp}{v:V}{l:List Rat}(s:j6 G G')(h:Tri K G v l):Tri K G' v l:=Tp.mono Fr.mono _ _ _ _ s h
def Y2 (K:W.Frag)(G:Hp)(kvs:List (List Key×V))(gl:List Glass):Prop:=Paired (fun (kv:List Key×V) (g:Glass)=>kv.1=key g.name/\Tri K G kv.2 g.index) kvs gl
theorem Y2.mono {K:W.Frag}{G G':Hp}{kvs:List (List Key×V)}{gl:List Glass}(s:j6 G G')(h:Y2 K G kvs gl):Y2 K G' kvs gl:=Paired.map' (fun _ _ q=>⟨q.1,q.2.mono s⟩) h
theorem Y2.keys {K:W.Frag}{G:Hp}:∀ {kvs:List (List Key×V)}{gl:List Glass},Y2 K G kvs gl->an0 kvs (gl.map (·.name))
 | _,_,.nil=>rfl
 | kv::kvs,g::gl,.cons h t=>by
  have ih:kvs.map (·.1)=(gl.map (·.name)).map key:=Y2.keys t
  show kv.1::kvs.map (·.1)=key g.name::(gl.map (·.name)).map key
  rw [h.1,ih]
theorem Y2.len {K:W.Frag}{G:Hp}{kvs:List (List Key×V)}{gl:List Glass}(h:Y2 K G kvs gl):kvs.length=gl.length:=Paired.length h
theorem Y2.find {K:W.Frag}{G:Hp}:∀ {kvs:List (List Key×V)}{gl:List Glass},Y2 K G kvs gl->∀ b:Bytes,match (gl.map fun (g:Glass)=>g.name).idxOf? b with
  | some i=>∃ v,P8 kvs (key b)=some v/\Tri K G v ((gl.map fun (g:Glass)=>g.index).getD i [])
  | none=>P8 kvs (key b)=none
 | _,_,.nil,b=>rfl
 | kv::kvs,g::gl,.cons h t,b=>by
  have ih:=Y2.find t b
  rw [List.map_cons,List.idxOf?_cons]
  by_cases e:g.name=b
  ·rw [if_pos (by simpa using e)]
   refine a0 kv.2 (Z4 (by rw [h.1,e])) h.2
  ·rw [if_neg (by simpa using e)]
   have hv:P8 (kv::kvs) (key b)=P8 kvs (key b):=Z5 fun z=>e (aS9 (h.1.symm.trans z))
   rw [hv]
   cases z:(gl.map fun (g:Glass)=>g.name).idxOf? b with
   | none=>rw [z] at ih;exact ih
   | some i=>rw [z] at ih;exact ih
theorem aN1 (taken:Bytes->Bool)(b:Bytes)(p:Nat):Ma.C8 taken (Lx b p)=if (g8 b p).1=.broken then .error (1,l4 b p) else match (g8 b p).1 with
  | .name nb=>if taken nb=true then .error (3,l4 b p) else .ok (nb,Lx b (l4 b p+(g8 b p).2))
  | _=>.error (2,l4 b p):=by
 rw [Ma.B4 b p]
 unfold Ma.C8
 dsimp only
 cases z:(g8 b p).1 with
 | name nb =>
  have:¬ z6 (Ln.Text.Tok.name nb)=true:=by intro q;cases q
  rw [if_neg this]
 | _=>rfl
theorem bk3 (gl:List Glass)(b:Bytes)(p:Nat):Ln.Text.glassNamed gl (Lx b p)=if (g8 b p).1=.broken then .error (1,l4 b p) else match (g8 b p).1 with
  | .name nb=>(match (gl.map fun (g:Glass)=>g.name).idxOf? nb with
   | some i=>.ok (i,Lx b (l4 b p+(g8 b p).2))
   | none=>.error (4,l4 b p))
  | _=>.error (2,l4 b p):=by
 unfold Ln.Text.glassNamed
 rw [Ma.c8]
 conv=>lhs;rw [Ma.B4 b p,Ma.ax0]
 dsimp only
 cases z:(g8 b p).1 with
 | name nb =>
  have:¬ z6 (Ln.Text.Tok.name nb)=true:=by intro q;cases q
  have h2:¬ Ln.Text.Tok.name nb=.broken:=by intro q;cases q
  rw [if_neg h2,if_neg this,if_neg h2]
  dsimp only
  cases (gl.map fun (g:Glass)=>g.name).idxOf? nb<;>rfl
 | broken=>rfl
 | _=>rfl
theorem aS3 {b:Bytes}{p:Nat}{nb:Bytes}(h:(g8 b p).1=.name nb):ar0 b p=nb:=(Ma.aM7 (c:=b.drop (l4 b p)) h).1
theorem ax6 {t:Ln.Text.Tok}(h:isK .name t=true):∃ nb,t=.name nb:=by
 cases t with
 | name nb=>exact j7 nb rfl
 | num n k p=>cases p<;>cases h
 | _=>cases h
structure Tn (K:W.Frag)(mg:Str->Option Value)(CN CF CR:Addr):Prop extends Tr K mg CN CF CR where
 tuple_:mg "tuple"=none
section
variable {w:World}{K:W.Frag}{mg:Str->Option Value}{base:Heap}{CN CF CR:Addr}
def Bt (G:Hp)(v:V)(b:Bytes):Prop:=∃ t,v=.ref t/\G t=some (.tup (h8 b))
theorem Own.ne {G H:Hp}{p q:Addr}{o u:HO}(a:Own G H p o)(b:Own G H q u)(h:o≠u):p≠q:=bA9 a.at_ b.at_ h
theorem A2.nd {G H:Hp}{r d:Addr}{b:Bytes}{p:Nat}{kvs:List (List Key×V)}(h:A2 K CR G H r b p)(o:Own G H d (.dT kvs)):d≠r:=by
 obtain ⟨_,dx,t,tk,ho,_,_⟩:=h
 exact Own.ne o ho (by intro z;cases z)
def aj1 (K:W.Frag)(CR CF:Addr):Sp:=fun vs H Q E=>∃ (G:Hp) (r:Addr) (b:Bytes) (p:Nat) (d:Addr) (kvs:List (List Key×V)) (ns:List Bytes),vs=[.ref r,.ref d]/\j6 G H/\A2 K CR G H r b p/\Own G H d (.dT kvs)/\an0 kvs ns/\PQ K CR CF (Ma.C8 fun b=>ns.any fun n=>n == b) Bt G H r b p Q E
theorem bD8:g9 ["reader","names"] ["reader","names"] (d7 M2):=⟨rfl,rfl,rfl,by decide +kernel,rfl,by decide +kernel,by decide +kernel⟩
theorem bH4 {f:Addr}{fd:FuncData}(F:Fun K "read_new_name" "read_new_name" M2 f fd)(T:Tn K mg CN CF CR)(D:Rdr w K mg base CR CF):l6 prog w K mg base (cxX prog w) 8 f fd ["reader","names"] (aj1 K CR CF):=by
 refine F.okX bD8 (fun vs H Q E h=>?_) (fun cdv A outer s H vs Q E hr h=>?_)
 ·obtain ⟨G,r,b,p,d,kvs,ns,rfl,_⟩:=h;rfl
 ·obtain ⟨G,r,b,p,d,kvs,ns,rfl,sm,hR,ho,hk,kk⟩:=h
  have hr1:=hr.mono (show 1<=7 by decide)
  have hr3:=hr.mono (show 3<=7 by decide)
  have hr4:=hr.mono (show 4<=7 by decide)
  have hu:=aT2 hr
  refine a0 _ (c6 (i8 (pmr D.expect T.cl hr4 d4 (pv 0) (b0 (y1 (b0 i9 c9)) c9)))
   (c6 (q0 (bh7 (bF6 hu (N2 F2 (by rfl) T.tuple_ boot_tuple (b0 (ag1 D.piece T.cl hr1 d4 (pv 0)) c9)) (pv 1))) (d5 (i8 (pmr D.refuse T.cl hr3 d4 (pv 0) (b0 (pgi T.k3) c9)))) j3)
   (d5 (i4 (N2 F2 (by rfl) T.tuple_ boot_tuple (b0 (pmr D.take T.cl hr d4 (pv 0) (b0 i9 c9)) c9)))))) ?_
  refine I0 r rfl (hR.m m4) (by show 1<=sizeLine;decide) (fun q hq=>?_)
  have e1:Ext [] G H _ _:=(Ext.refl sm).lay hq (o:=.tup [.str "name"])
  have hR1:=hR.ext e1 (by simp)
  have ho1:=ho.ext e1 (by simp)
  replace kk:=kk.later (k:=Ma.C8 fun b=>ns.any fun n=>n == b) (p1:=p) rfl (e1.up (M:=[r]))
  refine F5 _ r b p q ([.name]) rfl e1.sub hR1 (.of c7) (by decide +kernel) ?_
  generalize upd G q (.tup [.str "name"])=G1 at e1 hR1 ho1 kk
  generalize upd H q (.tup [.str "name"])=H1 at e1 hR1 ho1 kk
  unfold PQ at kk
  rw [aN1] at kk
  rw [D9]
  by_cases hb:(g8 b p).1=.broken
  ·rw [if_pos hb] at kk ⊢;exact kk
  rw [if_neg hb] at kk ⊢
  have ea:([Ma.K.name].any fun k=>isK k (g8 b p).1)=isK .name (g8 b p).1:=by simp
  rw [ea]
  cases hz:isK .name (g8 b p).1 with
  | false =>
   rw [if_neg (by decide)]
   cases ht:(g8 b p).1 with
   | name nb=>rw [ht] at hz;cases hz
   | _=>rw [ht] at kk;exact kk
  | true =>
  rw [if_pos rfl]
  obtain ⟨nb,ht⟩:=ax6 hz
  rw [ht] at kk
  dsimp only at kk
  have hpc:=aS3 ht
  refine d8 r rfl (hR1.m m2) (l7 G1 r b p rfl e1.sub hR1 (fun v G2 H2 e2 hv=>?_))
  rw [hpc] at hv
  obtain ⟨u,rfl,hu2⟩:=hv
  refine L8 u _ rfl (.inl ⟨SqL.of (e2.sub _ _ hu2),fun l hl=>?_⟩)
  have e3:=e2.lay hl (o:=.tup (h8 nb))
  have hR3:=hR1.ext e3 (by simp)
  have ho3:=ho1.ext e3 (by simp)
  refine a0 _ rfl (g6 d _ rfl (an2.t (k:=key nb) ho3.at_ (by rw [as3];exact c7)) (a0 _ rfl ?_))
  rw [hk.some_iff nb]
  refine K0 (fun hin=>?_) (fun hin=>?_)
  ·rw [hin,if_pos rfl] at kk
   exact d8 r rfl (hR3.m m3) (Z1 _ r b p 3 rfl e3.sub hR3 kk)
  ·rw [hin,if_neg (by decide)] at kk
   refine d8 r rfl (hR3.m m6) (z7 _ r b p .name rfl e3.sub hR3 (by decide +kernel) ?_)
   rw [U2 .name b p (K3 (by decide +kernel)),if_neg hb,hz,if_pos rfl]
   intro v4 G4 H4 e4 hR4 hv4
   rw [hpc] at hv4
   obtain ⟨u4,rfl,hu4⟩:=hv4
   refine L8 u4 _ rfl (.inl ⟨SqL.of (e4.sub _ _ hu4),fun l5 hl5=>?_⟩)
   have e5:=e4.lay hl5 (o:=.tup (h8 nb))
   have e15:Ext [r] G1 H1 _ _:=(e3.up (M:=[r])).trans e5
   have e45:Ext [] G4 H4 _ _:=(Ext.refl e4.sub).lay hl5 (o:=.tup (h8 nb))
   exact kk _ _ _ _ rfl e15 (hR4.ext e45 (by simp)) (a0 l5 rfl c7)
def aA2 (K:W.Frag)(CR CF:Addr):Sp:=fun vs H Q E=>∃ (G:Hp) (r:Addr) (b:Bytes) (p:Nat) (d:Addr) (kvs:List (List Key×V)) (gl:List Glass),vs=[.ref r,.ref d]/\j6 G H/\A2 K CR G H r b p/\Own G H d (.dT kvs)/\Y2 K G kvs gl/\PQ K CR CF (Ln.Text.glassNamed gl) (fun G v m=>Tri K G v ((gl.map fun (g:Glass)=>g.index).getD m [])) G H r b p Q E
theorem bD9:g9 ["reader","glasses"] ["reader","glasses"] (d7 F7):=⟨rfl,rfl,rfl,by decide +kernel,rfl,by decide +kernel,by decide +kernel⟩
theorem bH5 {f:Addr}{fd:FuncData}(F:Fun K "read_known_glass" "read_known_glass" F7 f fd)(T:Tn K mg CN CF CR)(D:Rdr w K mg base CR CF):l6 prog w K mg base (cxX prog w) 8 f fd ["reader","glasses"] (aA2 K CR CF):=by
 refine F.okX bD9 (fun vs H Q E h=>?_) (fun cdv A outer s H vs Q E hr h=>?_)
 ·obtain ⟨G,r,b,p,d,kvs,ns,rfl,_⟩:=h;rfl
 ·obtain ⟨G,r,b,p,d,kvs,gl,rfl,sm,hR,ho,hk,kk⟩:=h
  have hr1:=hr.mono (show 1<=7 by decide)
  have hr3:=hr.mono (show 3<=7 by decide)
  have hr4:=hr.mono (show 4<=7 by decide)
  have hu:=aT2 hr
  refine a0 _ (c6 (i8 (pmr D.expect T.cl hr4 d4 (pv 0) (b0 (y1 (b0 i9 c9)) c9)))
   (c6 (q0 (bh7 (aX5 hu (N2 F2 (by rfl) T.tuple_ boot_tuple (b0 (ag1 D.piece T.cl hr1 d4 (pv 0)) c9)) (pv 1))) (d5 (i8 (pmr D.refuse T.cl hr3 d4 (pv 0) (b0 (pgi T.k4) c9)))) j3)
   (d5 (i4 (bs4 hu (pv 1) (N2 F2 (by rfl) T.tuple_ boot_tuple (b0 (pmr D.take T.cl hr d4 (pv 0) (b0 i9 c9)) c9)) (fun _ _=>rfl)))))) ?_
  refine I0 r rfl (hR.m m4) (by show 1<=sizeLine;decide) (fun q hq=>?_)
  have e1:Ext [] G H _ _:=(Ext.refl sm).lay hq (o:=.tup [.str "name"])
  have hR1:=hR.ext e1 (by simp)
  have ho1:=ho.ext e1 (by simp)
  have hk1:=hk.mono e1.grow
  replace kk:=kk.later (k:=Ln.Text.glassNamed gl) (p1:=p) rfl (e1.up (M:=[r]))
  refine F5 _ r b p q ([.name]) rfl e1.sub hR1 (.of c7) (by decide +kernel) ?_
  generalize upd G q (.tup [.str "name"])=G1 at e1 hR1 ho1 hk1 kk
  generalize upd H q (.tup [.str "name"])=H1 at e1 hR1 ho1 kk
  unfold PQ at kk
  rw [bk3] at kk
  rw [D9]
  by_cases hb:(g8 b p).1=.broken
  ·rw [if_pos hb] at kk ⊢;exact kk
  rw [if_neg hb] at kk ⊢
  have ea:([Ma.K.name].any fun k=>isK k (g8 b p).1)=isK .name (g8 b p).1:=by simp
  rw [ea]
  cases hz:isK .name (g8 b p).1 with
  | false =>
   rw [if_neg (by decide)]
   cases ht:(g8 b p).1 with
   | name nb=>rw [ht] at hz;cases hz
   | _=>rw [ht] at kk;exact kk
  | true =>
  rw [if_pos rfl]
  obtain ⟨nb,ht⟩:=ax6 hz
  rw [ht] at kk
  dsimp only at kk
  have hpc:=aS3 ht
  have hfind:=hk1.find nb
  refine d8 r rfl (hR1.m m2) (l7 G1 r b p rfl e1.sub hR1 (fun v G2 H2 e2 hv=>?_))
  rw [hpc] at hv
  obtain ⟨u,rfl,hu2⟩:=hv
  refine L8 u _ rfl (.inl ⟨SqL.of (e2.sub _ _ hu2),fun l hl=>?_⟩)
  have e3:=e2.lay hl (o:=.tup (h8 nb))
  have hR3:=hR1.ext e3 (by simp)
  have ho3:=ho1.ext e3 (by simp)
  refine a0 _ rfl (g6 d _ rfl (an2.t (k:=key nb) ho3.at_ (by rw [as3];exact c7)) (a0 _ rfl ?_))
  cases hx:(gl.map fun (g:Glass)=>g.name).idxOf? nb with
  | none =>
   rw [hx] at hfind kk
   dsimp only at hfind kk
   rw [hfind]
   exact ag8 (d8 r rfl (hR3.m m3) (Z1 _ r b p 4 rfl e3.sub hR3 kk))
  | some i =>
   rw [hx] at hfind kk
   dsimp only at hfind kk
   obtain ⟨val,hval,htri⟩:=hfind
   rw [hval]
   refine aj9 (a0 _ rfl (d8 r rfl (hR3.m m6) (z7 _ r b p .name rfl e3.sub hR3 (by decide +kernel) ?_)))
   rw [U2 .name b p (K3 (by decide +kernel)),if_neg hb,hz,if_pos rfl]
   intro v4 G4 H4 e4 hR4 hv4
   rw [hpc] at hv4
   obtain ⟨u4,rfl,hu4⟩:=hv4
   refine L8 u4 _ rfl (.inl ⟨SqL.of (e4.sub _ _ hu4),fun l5 hl5=>?_⟩)
   have e5:=e4.lay hl5 (o:=.tup (h8 nb))
   have e15:Ext [r] G1 H1 _ _:=(e3.up (M:=[r])).trans e5
   have e45:Ext [] G4 H4 _ _:=(Ext.refl e4.sub).lay hl5 (o:=.tup (h8 nb))
   have ndr:d∉[r]:=by simpa using hR1.nd ho1
   have ho5:=ho1.ext e15 ndr
   refine g6 d val rfl ?_ (kk _ _ _ _ rfl e15 (hR4.ext e45 (by simp)) (htri.mono e15.grow))
   have:=an2.t (k:=key nb) ho5.at_ (b:=l5) (by rw [as3];exact c7)
   rw [hval] at this
   exact this
end
end Th
set_option maxHeartbeats 2000000
namespace Th
open PySem PySem.Spec PyProof.Rows L2
open Ln (Bytes Glass Elem System_ Kind)
open Ln.Text (isDigit natural isLetter isMark tokenIn numberIn WORDS NAME P Lex)
open Ma (isK P5 l4 g8 Lx z6 P6)
section
variable {K:W.Frag}{CR CF:Addr}{α β:Type}{G H:Hp}{r:Addr}{b:Bytes}{p:Nat}{E:XK}{C:β->Nat->Prop}
def PK (CF:Addr)(m:P β)(C:β->Nat->Prop)(b:Bytes)(p:Nat)(E:XK):Prop:=match m (Lx b p) with
 | .ok (a,l')=>∀ p',l'=Lx b p'->C a p'
 | .error e=>af3 CF E e
theorem PK.later {m k:P β}{p1:Nat}(h:PK CF m C b p E)(hm:m (Lx b p)=k (Lx b p1)):PK CF k C b p1 E:=by
 unfold PK at h ⊢
 rw [hm] at h;exact h
theorem PK.call {m:P α}{k:α->P β}{R1:Hp->V->α->Prop}{Q1:VK}(h:PK CF (m >>= k) C b p E)
  (cont:∀ a v G1 H1 p1,m (Lx b p)=.ok (a,Lx b p1)->Ext [r] G H G1 H1->A2 K CR G1 H1 r b p1->R1 G1 v a->PK CF (k a) C b p1 E->Q1 v H1):PQ K CR CF m R1 G H r b p Q1 E:=by
 have hb:=Ma.c8 m k (Lx b p)
 unfold PQ
 cases z:m (Lx b p) with
 | error e =>
  rw [z] at hb
  unfold PK at h
  rw [hb] at h;exact h
 | ok x =>
  obtain ⟨a,l'⟩:=x
  rw [z] at hb
  intro v G' H' p' hl e hR hr
  have hl':l'=Lx b p':=hl
  subst hl'
  exact cont a v G' H' p' z e hR hr (h.later hb)
theorem PK.done {a:β}(h:PK CF (pure a) C b p E):C a p:=h p rfl
theorem PK.take {k:Ma.K}{f:Ln.Text.Tok->P β}{Q1:VK}(hk:k∈N4)(h:PK CF (Ma.x8 k >>= f) C b p E)
  (cont:∀ v G1 H1,isK k (g8 b p).1=true->Ext [r] G H G1 H1->A2 K CR G1 H1 r b (l4 b p+(g8 b p).2)->Bl G1 v (ar0 b p)->PK CF (f (g8 b p).1) C b (l4 b p+(g8 b p).2) E->Q1 v H1):match Ma.x8 k (Lx b p) with
   | .ok _=>∀ v G' H',Ext [r] G H G' H'->A2 K CR G' H' r b (l4 b p+(g8 b p).2)->Bl G' v (ar0 b p)->Q1 v H'
   | .error e=>af3 CF E e:=by
 have hb:=Ma.c8 (Ma.x8 k) f (Lx b p)
 have ha:=U2 k b p (K3 hk)
 by_cases h1:(g8 b p).1=.broken
 ·rw [if_pos h1] at ha
  rw [ha] at hb ⊢
  unfold PK at h
  rw [hb] at h;exact h
 ·rw [if_neg h1] at ha
  by_cases h2:isK k (g8 b p).1=true
  ·rw [if_pos h2] at ha
   rw [ha] at hb ⊢
   exact fun v G' H' e hR hv=>cont v G' H' h2 e hR hv (h.later hb)
  ·rw [if_neg h2] at ha
   rw [ha] at hb ⊢
   unfold PK at h
   rw [hb] at h;exact h
theorem PK.pass {f:Unit->P β}(hn:z6 (g8 b p).1=false)(h:PK CF (Ln.Text.pass >>= f) C b p E):PK CF (f ()) C b (l4 b p+(g8 b p).2) E:=by
 refine h.later ?_
 rw [Ma.c8,Ma.B8]
 dsimp only
 rw [Ma.B4 b p,hn,if_neg (by decide)];rfl
theorem PK.refuse {n:Nat}(h:PK CF (Ma.refuse n:P β) C b p E):af3 CF E (n,l4 b p):=by
 unfold PK at h
 have e:(Ma.refuse n:P β) (Lx b p)=.error (n,l4 b p):=by rw [Ma.B4];rfl
 rw [e] at h;exact h
end
theorem ar7 {taken:Bytes->Bool}{l l':List Lex}{nb:Bytes}(h:Ma.C8 taken l=.ok (nb,l')):taken nb=false:=by
 unfold Ma.C8 at h
 split at h
 ·split at h
  ·cases h
  ·split at h
   ·split at h
    ·cases h
    ·rename_i hf
     cases h
     simpa using hf
   ·cases h
 ·cases h
def idx (n:Bytes):List UInt8->List Rat->P Glass
 | [],acc=>pure ⟨n,acc⟩
 | m::ms,acc=>Ma.T0 m >>= fun q=>idx n ms (acc++[q])
def P4:List UInt8:=[44,44,59]
theorem bK4:∀ c∈P4,c∈P3:=by decide +kernel
theorem aM6 (l:List Glass)(hl:l.length≠64):Ma.X3 l=(Ln.Text.pass >>= fun _=>Ma.C8 (Ma.ap3 l) >>= fun n=>Ma.x8 (.m 58) >>= fun _=>idx n P4 []):=by
 unfold Ma.X3
 rw [if_neg hl];rfl
theorem aV7 (gl:List Glass):Ma.ap3 gl=fun b=>(gl.map (·.name)).any fun n=>n == b:=by
 funext b
 unfold Ma.ap3
 rw [List.any_map];rfl
section
variable {w:World}{K:W.Frag}{mg:Str->Option Value}{base:Heap}{CN CF CR:Addr}
def aQ6 (K:W.Frag)(CR CF:Addr):Sp:=fun vs H Q E=>∃ (G:Hp) (r:Addr) (b:Bytes) (p:Nat) (d:Addr) (kvs:List (List Key×V)) (gl:List Glass),vs=[.ref r,.ref d]/\j6 G H/\A2 K CR G H r b p/\Own G H d (.dT kvs)/\Y2 K G kvs gl/\P6 gl/\gl.length<=64/\isK (.w "glass") (g8 b p).1=true /\
 PK CF (Ma.X3 gl) (fun g p'=>gl.length < 64->∀ G' H' kvs',Ext [r,d] G H G' H'->A2 K CR G' H' r b p'->Own G' H' d (.dT kvs')->Y2 K G' kvs' (gl++[g])->P6 (gl++[g])->Q .non H') b p E
theorem aB0:g9 ["reader","glasses","name","indices","mark"] ["reader","glasses"] (d7 W3):=⟨rfl,rfl,rfl,by decide +kernel,rfl,by decide +kernel,by decide +kernel⟩
theorem Ext.two {r d:Addr}{G H G1 H1:Hp}(e:Ext [r] G H G1 H1):Ext [r,d] G H G1 H1:=e.mono fun b hb=>by rw [List.mem_singleton.mp hb];simp
theorem bH7 {f:Addr}{fd:FuncData}(F:Fun K "read_glass" "read_glass" W3 f fd)(T:Tn K mg CN CF CR)(D:Rdr w K mg base CR CF)(Dn:Def prog w K mg base 8 "read_new_name" ["reader","names"] (aj1 K CR CF))(Di:Def prog w K mg base 10 "read_index" ["reader","mark"] (aQ5 K CR CF)) :
  l6 prog w K mg base (cxX prog w) 11 f fd ["reader","glasses"] (aQ6 K CR CF):=by
 refine F.okX aB0 (fun vs H Q E h=>?_) (fun cdv A outer s H vs Q E hr h=>?_)
 ·obtain ⟨G,r,b,p,d,kvs,gl,rfl,_⟩:=h;rfl
 ·obtain ⟨G,r,b,p,d,kvs,gl,rfl,sm,hR,ho,hg,hok,hle,hgl,kk⟩:=h
  have hr3:=hr.mono (show 3<=10 by decide)
  have hr6:=hr.mono (show 6<=10 by decide)
  have hr7:=hr.mono (show 7<=10 by decide)
  have hr8:=hr.mono (show 8<=10 by decide)
  have hu:=aT2 hr
  refine a0 _ (c6 (q0 (j5 E0 (w8 ay3 (by rfl) T.len_ boot_len (b0 (pv 1) c9)) (pgi T.most64_) (j8 _)) (d5 (i8 (pmr D.refuse T.cl hr3 d4 (pv 0) (b0 (pgi T.k5) c9)))) j3)
   (c6 (i8 (ag1 D.step T.cl hr6 d4 (pv 0)))
   (c6 (h9 (i:=2) aB0.nd rfl (Or.inl rfl) (d9 Dn hr8 d4 (b0 (pv 0) (b0 (pv 1) c9))))
   (c6 (i8 (pmr D.take T.cl hr7 d4 (pv 0) (b0 i9 c9)))
   (c6 (h9 (i:=3) aB0.nd rfl (Or.inl rfl) (B2 c9))
   (c6 (O8 C9 rfl (bi0 (y1 (b0 i9 (b0 i9 (b0 i9 c9))))) (B6 (i:=4) aB0.nd rfl (Or.inl rfl)) (d5 (i8 (aw7 PySem.F.plainAttrs_list PySem.F.slot_list_append PySem.F.type_list_append U5 (pv 3) (b0 (d9 Di hr d4 (b0 (pv 0) (b0 (pv 4) c9))) c9)))))
   (d5 (aS0 hu (pv 1) (pv 2) (N2 F2 (by rfl) T.tuple_ boot_tuple (b0 (pv 3) c9)) rfl)))))))) ?_
  have ndr:d≠r:=hR.nd ho
  refine a0 _ rfl (i5 d _ rfl ho.at_ rfl (a0 _ rfl (K9 (fun h1=>?_) (fun h1=>?_))))
  ·rw [hg.len] at h1
   unfold Ma.X3 at kk
   rw [if_pos (by omega)] at kk
   exact d8 r rfl (hR.m m3) (Z1 G r b p 5 rfl sm hR kk.refuse)
  have h1':gl.length≠64:=by rw [hg.len] at h1;omega
  rw [aM6 gl h1'] at kk
  refine d8 r rfl (hR.m m5) (l7 G r b p rfl sm hR (fun G1 H1 e1 hR1=>?_))
  have k1:=kk.pass (D7 (k:=.w "glass") (by decide +kernel) hgl)
  have ho1:=ho.ext e1 (by simpa using ndr)
  have hg1:=hg.mono e1.grow
  rw [aV7] at k1
  refine a0 _ rfl (a0 _ rfl (Z0 G1 r b _ d kvs (gl.map (·.name)) rfl e1.sub hR1 ho1 hg1.keys (k1.call fun nb v G2 H2 p2 hm2 e2 hR2 hv k2=>?_)))
  obtain ⟨tn,rfl,htn⟩:=hv
  have e12:=e1.trans e2
  have ho2:=ho.ext e12 (by simpa using ndr)
  refine d8 r rfl (hR2.m m6) (z7 G2 r b p2 (.m 58) rfl e2.sub hR2 (by decide +kernel) (k2.take (by decide +kernel) fun v3 G3 H3 _ e3 hR3 _ k3=>?_))
  have e13:=e12.trans e3
  refine ⟨(by show 0<=sizeLine;decide),fun L hL=>?_⟩
  have hL0:H L=none:=e13.none_of hL
  have e4:=e13.lend hL (o:=.lst [])
  have e34:Ext [] G3 H3 G3 (upd H3 L (.lst [])):=(Ext.refl e3.sub).lend hL
  have hR4:=hR3.ext e34 (by simp)
  have oL:Own G3 (upd H3 L (.lst [])) L (.lst []):=Own.new e3.sub hL
  refine ⟨(by show 3<=sizeLine;decide),fun t0 ht0=>?_⟩
  have e5:=e4.lay ht0 (o:=.tup [.str ",",.str ",",.str ";"])
  have e45:Ext [] G3 (upd H3 L (.lst [])) _ _:=(Ext.refl e34.sub).lay ht0 (o:=.tup [.str ",",.str ",",.str ";"])
  have hR5:=hR4.ext e45 (by simp)
  have oL5:=oL.ext e45 (by simp)
  have hT0:upd G3 t0 (.tup [.str ",",.str ",",.str ";"]) t0=some (.tup [.str ",",.str ",",.str ";"]):=c7
  have htn5:upd G3 t0 (.tup [.str ",",.str ",",.str ";"]) tn=some (.tup (h8 nb)):=e45.grow _ _ (e3.grow _ _ htn)
  generalize upd G3 t0 (.tup [.str ",",.str ",",.str ";"])=G5 at e5 e45 hR5 oL5 hT0 htn5
  generalize upd (upd H3 L (.lst [])) t0 (.tup [.str ",",.str ",",.str ";"])=H5 at e5 e45 hR5 oL5
  have xs3:(P4.map fun c=>V.str (L6 (.m c)))=[.str ",",.str ",",.str ";"]:=by rfl
  refine d8 t0 rfl (j7 _ (SqT.of (e5.sub _ _ hT0))) (aT5 (K:=K) (a:=t0) (xs:=P4.map fun c=>V.str (L6 (.m c)))
   (fun i σ H'=>∃ (G':Hp) (p':Nat) (r4:Option V) (vs:List V) (qs:List Rat),σ=[some (.ref r),some (.ref d),some (.ref tn),some (.ref L),r4]/\Ext [r] G H G' H'/\j6 G5 G'/\A2 K CR G' H' r b p'/\Own G' H' L (.lst vs)/\Paired (Fr K G') vs qs/\(∀ q∈qs,1<=q/\Ma.Sz 60 q)/\qs.length=i/\PK CF (idx nb (P4.drop i) qs) (fun g p'=>gl.length < 64->∀ G' H' kvs',Ext [r,d] G H G' H'->A2 K CR G' H' r b p'->Own G' H' d (.dT kvs')->Y2 K G' kvs' (gl++[g])->P6 (gl++[g])->Q .non H') b p' E)
   (m9 G5 _ none ([]) ([]) ⟨rfl,e5,j6.refl _,hR5,oL5,.nil,(by simp),rfl,k3⟩) (fun i σ H' _ ⟨G',_,_,_,_,_,e,s5,_⟩=>SqT.of (e.sub _ _ (s5 _ _ (by rw [xs3];exact hT0)))) ?_ ?_)
  ·rintro i x σ H' hx ⟨G',p',r4,vs,qs,rfl,e6,s5,hR6,oL6,hp6,hq6,hl6,k6⟩
   rw [List.getElem?_map] at hx
   obtain ⟨c,hc,rfl⟩:∃ c,P4[i]?=some c/\x=V.str (L6 (.m c)):=by
    cases q:P4[i]? with
    | none=>rw [q] at hx;cases hx
    | some x=>rw [q] at hx;exact a0 x rfl ((Option.some.inj hx).symm)
   have hcm:c∈P3:=bK4 c (List.mem_of_getElem? hc)
   have hdr:P4.drop i=c::P4.drop (i+1):=by
    obtain ⟨hi,hic⟩:=List.getElem?_eq_some_iff.mp hc
    rw [List.drop_eq_getElem_cons hi,hic]
   rw [hdr] at k6
   have hir:L≠r:=fun z=>by
    obtain ⟨_,dx,t,tk,ho',_,_⟩:=hR6
    rw [z] at oL6
    have:=oL6.at_.symm.trans ho'.at_
    cases this
   refine d8 _ rfl (.inl ⟨rfl,j7 _ (SqL.of oL6.at_)⟩) (a0 _ rfl (a0 _ rfl (z7 G' r b p' c rfl hcm e6.sub hR6 (PK.call (C:=_) k6 fun q v G7 H7 p7 _ e7 hR7 hv k7=>?_))))
   have oL7:=oL6.ext e7 (by simpa using hir)
   have hll:vs.length<=3:=by
    have h1:=Paired.length hp6
    have:i < P4.length:=(List.getElem?_eq_some_iff.mp hc).1
    have h3:P4.length=3:=rfl
    omega
   refine u0 L _ _ rfl rfl oL7.at_ (Nat.lt_of_le_of_lt hll (by decide)) ?_
   have e67:=e6.trans e7
   have e8:=e67.put (.inl hL0) oL7.fr (o:=.lst (vs++[v]))
   have e78:Ext [L] G7 H7 G7 (upd H7 L (.lst (vs++[v]))):=(Ext.refl e7.sub).put (.inr (by simp)) oL7.fr
   refine m9 G7 p7 _ (vs++[v]) (qs++[q]) ⟨rfl,e8,s5.trans e7.grow,hR7.ext e78 (by simpa using fun z=>hir z.symm),oL7.put,Paired.snoc (Paired.map' (fun _ _ z=>Fr.mono _ _ _ _ e7.grow z) hp6) hv.1.1,?_,?_,k7⟩
   ·intro q' hq'
    rcases List.mem_append.mp hq' with z | z
    ·exact hq6 q' z
    ·rw [List.mem_singleton.mp z];exact ⟨hv.2,hv.1.2⟩
   ·rw [List.length_append,hl6];rfl
  ·rintro σ H' ⟨G',p',r4,vs,qs,rfl,e6,s5,hR6,oL6,hp6,hq6,hl6,k6⟩
   have hl3:qs.length=3:=hl6
   have k7:=(show PK CF (pure (⟨nb,qs⟩:Glass)) _ b p' E from k6).done
   refine a0 _ rfl (L8 L vs rfl (.inl ⟨SqL.of oL6.at_,fun l hl=>?_⟩))
   have e7:=e6.lay hl (o:=.tup vs)
   have e67:Ext [] G' H' _ _:=(Ext.refl e6.sub).lay hl (o:=.tup vs)
   have hR7:=hR6.ext e67 (by simp)
   have ho7:=ho.ext e7 (by simpa using ndr)
   have htn7:upd H' l (.tup vs) tn=some (.tup ((key nb).map kV)):=by rw [as3];exact e7.sub _ _ (e67.grow _ _ (s5 _ _ htn5))
   have hnt:P8 kvs (key nb)=none:=by
    have h2:=ar7 hm2
    have h3:=(hg.keys).some_iff nb
    rw [h2] at h3
    cases z:P8 kvs (key nb) with
    | none=>rfl
    | some x=>rw [z] at h3;cases h3
   have hlt:gl.length < 64:=by omega
   refine a0 _ rfl (a0 _ rfl (g6 d _ rfl (bb4.t (k:=key nb) ho7.at_ htn7 ?_) ?_))
   ·rw [hg.len];exact Nat.lt_of_lt_of_le hlt (by decide)
   ·rw [aF6 _ hnt]
    have e8:Ext [r,d] G H _ (upd (upd H' l (.tup vs)) d (.dT (kvs++[(key nb,.ref l)]))):=(Ext.two e7).put (.inr (by simp)) ho7.fr
    have hR8:=hR7.ext (M:=[d]) ((Ext.refl e67.sub).put (.inr (by simp)) ho7.fr (o:=.dT (kvs++[(key nb,.ref l)]))) (by simpa using fun z=>ndr z.symm)
    refine k7 hlt _ _ _ e8 hR8 ⟨c7,ho7.fr⟩ (Paired.snoc ((hg.mono e7.grow)) ⟨rfl,g6 l vs rfl (.of c7) (Paired.map' (fun _ _ z=>Fr.mono _ _ _ _ e67.grow z) hp6)⟩) ?_
    intro g hgm
    rcases List.mem_append.mp hgm with z | z
    ·exact hok g z
    ·rw [List.mem_singleton.mp z];exact ⟨hl3,hq6⟩
end
end Th
set_option maxHeartbeats 2000000
namespace Th
open PySem PySem.Spec PyProof.Rows L2
open Ln (Bytes Glass Elem System_ Kind)
open Ln.Text (isDigit natural isLetter isMark tokenIn numberIn WORDS NAME P Lex FUEL)
open Ma (isK P5 l4 g8 Lx z6 P6)
section
variable {β:Type}{CF:Addr}{b:Bytes}{p:Nat}{E:XK}{C:β->Nat->Prop}
theorem au7 (hg:isK (.w "glass") (g8 b p).1=true):(Ln.Text.glass [] >>= fun g=>Ln.Text.glasses FUEL [g]) (Lx b p)=Ln.Text.glasses (FUEL+1) [] (Lx b p):=by
 have hb:¬ (g8 b p).1=.broken:=fun z=>by rw [z] at hg;cases hg
 conv=>rhs;rw [Ma.B4 b p,Ma.X8 _ _ _ _ hb,if_pos hg,<-Ma.B4 b p]
 rfl
theorem aO2 {f:Nat}{gl:List Glass}{k:List Glass->P β}(hl:gl.length<=64)(hg:isK (.w "glass") (g8 b p).1=true)(h:PK CF (Ln.Text.glasses (f+1) gl >>= k) C b p E):PK CF (Ma.X3 gl >>= fun g=>Ln.Text.glasses f (gl++[g]) >>= k) C b p E:=by
 have hb:¬ (g8 b p).1=.broken:=fun z=>by rw [z] at hg;cases hg
 refine h.later ?_
 rw [Ma.c8,Ma.c8]
 conv=>lhs;rw [Ma.B4 b p,Ma.X8 _ _ _ _ hb,if_pos hg,Ma.c8]
 conv=>rhs;rw [Ma.B4 b p,Ma.bm7 gl hl _ _ hg]
 cases Ln.Text.glass gl (⟨l4 b p,(g8 b p).1⟩::(if z6 (g8 b p).1=true then [] else Lx b (l4 b p+(g8 b p).2))) with
 | error e=>rfl
 | ok x=>exact (Ma.c8 _ _ _).symm
theorem am2 {f:Nat}{gl:List Glass}{k:List Glass->P β}(hb:¬ (g8 b p).1=.broken)(hg:isK (.w "glass") (g8 b p).1=false)(h:PK CF (Ln.Text.glasses (f+1) gl >>= k) C b p E):PK CF (k gl) C b p E:=by
 refine h.later ?_
 rw [Ma.c8]
 conv=>lhs;rw [Ma.B4 b p,Ma.X8 _ _ _ _ hb,hg,if_neg (by decide),<-Ma.B4 b p]
theorem as5 {f:Nat}{gl:List Glass}{k:List Glass->P β}{Q1:Prop}(h:PK CF (Ln.Text.glasses (f+1) gl >>= fun l=>Ma.x8 (.w "start") >>= fun _=>k l) C b p E)
  (cont:(g8 b p).1≠.broken->([Ma.K.w "glass",Ma.K.w "start"].any fun k=>isK k (g8 b p).1)=true->Q1):match Ma.expect [.w "glass",.w "start"] (Lx b p) with
   | .ok _=>Q1
   | .error e=>af3 CF E e:=by
 rw [D9]
 by_cases hb:(g8 b p).1=.broken
 ·rw [if_pos hb]
  unfold PK at h
  have e:(Ln.Text.glasses (f+1) gl >>= fun l=>Ma.x8 (.w "start") >>= fun _=>k l) (Lx b p)=.error (1,l4 b p):=by
   rw [Ma.c8,Ma.B4 b p]
   have:Ln.Text.glasses (f+1) gl (⟨l4 b p,(g8 b p).1⟩::(if z6 (g8 b p).1=true then [] else Lx b (l4 b p+(g8 b p).2)))=.error (1,l4 b p):=by
    show (Ln.Text.isWordNext "glass" >>= _) _=_
    rw [Ma.c8,Ma.x9,if_pos hb]
   rw [this]
  rw [e] at h;exact h
 ·rw [if_neg hb]
  cases hz:[Ma.K.w "glass",Ma.K.w "start"].any fun k=>isK k (g8 b p).1 with
  | true=>rw [if_pos rfl];exact cont hb hz
  | false =>
   rw [if_neg (by decide)]
   simp only [List.any_cons,List.any_nil,Bool.or_false,Bool.or_eq_false_iff] at hz
   have h2:=am2 hb hz.1 h
   unfold PK at h2
   rw [Ma.c8,U2 _ _ _ (K3 (by decide +kernel)),if_neg hb,hz.2,if_neg (by decide)] at h2
   exact h2
end
section
variable {w:World}{K:W.Frag}{mg:Str->Option Value}{base:Heap}{CN CF CR:Addr}
def av6 (K:W.Frag)(CR CF:Addr):Sp:=fun vs H Q E=>∃ (β:Type) (G:Hp) (r:Addr) (b:Bytes) (p:Nat) (k:List Glass->P β) (C:β->Nat->Prop),vs=[.ref r]/\j6 G H/\A2 K CR G H r b p /\
 PK CF ((Ln.Text.glass [] >>= fun g=>Ln.Text.glasses FUEL [g]) >>= fun l=>Ma.x8 (.w "start") >>= fun _=>k l) C b p E /\
 ∀ d G' H' p' kvs gl,Ext [r] G H G' H'->A2 K CR G' H' r b p'->Own G' H' d (.dT kvs)->Y2 K G' kvs gl->P6 gl->PK CF (Ma.x8 (.w "start") >>= fun _=>k gl) C b p' E->Q (.ref d) H'
theorem bg5:g9 ["reader","glasses"] ["reader"] (d7 N8):=⟨rfl,rfl,rfl,by decide +kernel,rfl,by decide +kernel,by decide +kernel⟩
theorem bH6 {f:Addr}{fd:FuncData}(F:Fun K "read_glasses" "read_glasses" N8 f fd)(T:Tn K mg CN CF CR)(D:Rdr w K mg base CR CF)(Dg:Def prog w K mg base 11 "read_glass" ["reader","glasses"] (aQ6 K CR CF)) :
  l6 prog w K mg base (cxX prog w) 12 f fd ["reader"] (av6 K CR CF):=by
 refine F.okX bg5 (fun vs H Q E h=>?_) (fun cdv A outer s H vs Q E hr h=>?_)
 ·obtain ⟨β,G,r,b,p,k,C,rfl,_⟩:=h;rfl
 ·obtain ⟨β,G,r,b,p,k,C,rfl,sm,hR,kk,kq⟩:=h
  have hr1:=hr.mono (show 1<=11 by decide)
  have hr4:=hr.mono (show 4<=11 by decide)
  refine a0 _ (c6 (h9 (i:=1) bg5.nd rfl (Or.inl rfl) aG1) (c6 (i8 (pmr D.expect T.cl hr4 d4 (pv 0) (b0 (y1 (b0 i9 c9)) c9)))
   (c6 (U3 C9 (B7 (pmr D.sees T.cl hr1 d4 (pv 0) (b0 i9 c9)))
    (c6 (i8 (d9 Dg hr d4 (b0 (pv 0) (b0 (pv 1) c9)))) (d5 (i8 (pmr D.expect T.cl hr4 d4 (pv 0) (b0 (y1 (b0 i9 (b0 i9 c9))) c9))))))
   (d5 (i4 (pv 1)))))) ?_
  intro d hd
  have e0:Ext [r] G H G (upd H d (.dT [])):=(Ext.refl sm).lend hd
  have hR0:=hR.ext (M:=[]) ((Ext.refl sm).lend hd (o:=.dT [])) (by simp)
  have o0:Own G (upd H d (.dT [])) d (.dT []):=Own.new sm hd
  refine I0 r rfl (hR0.m m4) (by show 1<=sizeLine;decide) (fun t0 ht0=>?_)
  have e1:=e0.lay ht0 (o:=.tup [.str "glass"])
  have e01:Ext [] G (upd H d (.dT [])) _ _:=(Ext.refl e0.sub).lay ht0 (o:=.tup [.str "glass"])
  have hR1:=hR0.ext e01 (by simp)
  have o1:=o0.ext e01 (by simp)
  refine F5 _ r b p t0 ([.w "glass"]) rfl e1.sub hR1 (.of c7) (by decide +kernel) ?_
  generalize upd G t0 (.tup [.str "glass"])=G1 at e1 hR1 o1
  generalize upd (upd H d (.dT [])) t0 (.tup [.str "glass"])=H1 at e1 hR1 o1
  rw [D9]
  by_cases hb:(g8 b p).1=.broken
  ·rw [if_pos hb]
   unfold PK at kk
   have e:((Ln.Text.glass [] >>= fun g=>Ln.Text.glasses FUEL [g]) >>= fun l=>Ma.x8 (.w "start") >>= fun _=>k l) (Lx b p)=.error (1,l4 b p):=by
    rw [Ma.c8,Ma.c8,Ma.B4 b p]
    unfold Ln.Text.glass
    rw [Ma.c8,Ma.N0,if_pos hb]
   rw [e] at kk;exact kk
  rw [if_neg hb]
  have ea:([Ma.K.w "glass"].any fun k=>isK k (g8 b p).1)=isK (.w "glass") (g8 b p).1:=by simp
  rw [ea]
  cases hg:isK (.w "glass") (g8 b p).1 with
  | false =>
   rw [if_neg (by decide)]
   unfold PK at kk
   have e:((Ln.Text.glass [] >>= fun g=>Ln.Text.glasses FUEL [g]) >>= fun l=>Ma.x8 (.w "start") >>= fun _=>k l) (Lx b p)=.error (2,l4 b p):=by
    rw [Ma.c8,Ma.c8,Ma.B4 b p]
    unfold Ln.Text.glass
    rw [Ma.c8,Ma.N0,if_neg hb,hg,if_neg (by decide)]
   rw [e] at kk;exact kk
  | true =>
  rw [if_pos rfl]
  have k1:PK CF (Ln.Text.glasses (FUEL+1) [] >>= fun l=>Ma.x8 (.w "start") >>= fun _=>k l) C b p E:=by
   refine kk.later ?_
   rw [Ma.c8,au7 hg,<-Ma.c8]
  refine T9 (fun σ H'=>σ=[some (.ref r),some (.ref d)]/\∃ (G':Hp) (p':Nat) (kvs:List (List Key×V)) (gl:List Glass) (fu:Nat),Ext [r] G H G' H'/\A2 K CR G' H' r b p'/\Own G' H' d (.dT kvs)/\Y2 K G' kvs gl/\P6 gl/\gl.length<=64/\gl.length=av7 0 [some (.int (gl.length:Int))]/\fu+gl.length=FUEL/\(g8 b p').1≠.broken/\([Ma.K.w "glass",Ma.K.w "start"].any fun k=>isK k (g8 b p').1)=true /\
    PK CF (Ln.Text.glasses (fu+1) gl >>= fun l=>Ma.x8 (.w "start") >>= fun _=>k l) C b p' E) (fun _ H'=>match H' d with
     | some (.dT kvs)=>64 - kvs.length
     | _=>0) ⟨rfl,m9 G1 p ([]) ([]) FUEL ⟨e1,hR1,o1,.nil,(by intro g hg;cases hg),(by decide),rfl,rfl,hb,(by rw [List.any_cons,hg];rfl),k1⟩⟩ ?_ (fun σ H Q Q' hq ⟨a1,a2,a3,a4,a5,a6,a7,a8,a9,a10,a11,a12,a13,a14,a15⟩=>(d8 a1 a2 a3 (z7 a4 a5 a6 a7 a8 a9 a10 a11 a12 (a0 a13 a14 (hq _ _ a15)))))
  rintro σ H' ⟨rfl,G',p',kvs,gl,fu,e2,hR2,o2,hgl,hok,hle,_,hfu,hb2,hany,k2⟩
  refine d8 r rfl (hR2.m m1) (z7 G' r b p' (.w "glass") rfl (by decide +kernel) e2.sub hR2 (a0 _ rfl (K0 (fun hz=>?_) (fun hz=>?_))))
  ·-- read_glass
   have hmu:(match H' d with
     | some (.dT kvs)=>64 - kvs.length
     | _=>0)=64 - gl.length:=by rw [o2.at_];show 64 - kvs.length=_;rw [hgl.len]
   have hfu1:∃ f',fu=f'+1:=(j7 (fu - 1) (by
    have:FUEL=65538:=rfl
    omega))
   obtain ⟨f',rfl⟩:=hfu1
   have k3:=aO2 hle hz k2
   refine a0 _ rfl (a0 _ rfl (m9 G' r b p' d (Z3 kvs gl ⟨rfl,e2.sub,hR2,o2,hgl,hok,hle,hz,?_⟩)))
   unfold PK
   have hbr:=Ma.c8 (Ma.X3 gl) (fun g=>Ln.Text.glasses (f'+1) (gl++[g]) >>= fun l=>Ma.x8 (.w "start") >>= fun _=>k l) (Lx b p')
   unfold PK at k3
   cases hx:Ma.X3 gl (Lx b p') with
   | error e=>rw [hx] at hbr;rw [hbr] at k3;exact k3
   | ok x =>
    obtain ⟨g,l'⟩:=x
    rw [hx] at hbr
    rw [hbr] at k3
    intro p3 hl3 hlt G3 H3 kvs3 e3 hR3 o3 hgl3 hok3
    have hl3':l'=Lx b p3:=hl3
    subst hl3'
    have k4:PK CF (Ln.Text.glasses (f'+1) (gl++[g]) >>= fun l=>Ma.x8 (.w "start") >>= fun _=>k l) C b p3 E:=k3
    refine I0 r rfl (hR3.m m4) (by show 2<=sizeLine;decide) (fun t3 ht3=>?_)
    have e34:Ext [] G3 H3 _ _:=(Ext.refl e3.sub).lay ht3 (o:=.tup [.str "glass",.str "start"])
    have hR4:=hR3.ext e34 (by simp)
    have o4:=o3.ext e34 (by simp)
    have e24:Ext [r] G H (upd G3 t3 (.tup [.str "glass",.str "start"])) (upd H3 t3 (.tup [.str "glass",.str "start"])):=by
     have hdn:H d=none:=hd
     have e23:Ext [r,d] G H G3 H3:=(Ext.two e2).trans e3
     have e25:=e23.tr0 e34
     exact ⟨e25.sub0,e25.sub,e25.grow,fun c o hc hcr=>e25.keep c o hc (fun hm=>by
      rcases List.mem_cons.mp hm with z | z
      ·exact hcr (by rw [z];simp)
      ·rw [List.mem_singleton.mp z,hdn] at hc;cases hc),e25.there,e25.fresh⟩
    refine F5 _ r b p3 t3 ([.w "glass",.w "start"]) rfl e34.sub hR4 (.of c7) (by decide +kernel) (as5 k4 fun hb4 hany4=>⟨⟨rfl,m9 _ p3 kvs3 (gl++[g]) f' ⟨e24,hR4,o4,hgl3.mono e34.grow,hok3,?_,rfl,?_,hb4,hany4,k4⟩⟩,?_⟩)
    ·rw [List.length_append];show gl.length+1<=64;omega
    ·rw [List.length_append];show f'+(gl.length+1)=FUEL;omega
    ·rw [hmu,o4.at_]
     show 64 - kvs3.length < _
     rw [hgl3.len,List.length_append]
     show 64 - (gl.length+1) < _
     omega
  ·-- start
   refine a0 _ rfl (kq d G' H' p' kvs gl e2 hR2 o2 hgl hok (am2 hb2 hz k2))
end
end Th
set_option maxHeartbeats 2000000
namespace Th
open PySem PySem.Spec PyProof.Rows L2
open Ln (Bytes Glass Elem System_ Kind)
open Ln.Text (isDigit natural isLetter isMark tokenIn numberIn WORDS NAME P Lex FUEL)
open Ma (isK P5 l4 g8 Lx z6 P6)
def az2:Ln.Kind->Str
 | .surface _=>"surface"
 | .mirror=>"mirror"
 | .halt_=>"stop"
def ef (w g l c k:V):List (Str×V):=z9 "conic" k (z9 "curve" c (z9 "glass" l (z9 "gap" g (z9 "word" w []))))
structure an1 (K:W.Frag)(CE:Addr)(G:Hp)(v:V)(e:Elem)(gl:List Glass):Prop where
 ex:∃ x dx vg vl vc vk,v=.ref x/\G x=some (.ins CE dx (ef (.str (az2 e.kind)) vg vl vc vk))/\Fr K G vg e.gap/\Fr K G vc e.curve/\Fr K G vk e.conic/\(match e.kind with
  | .surface m=>Tri K G vl ((gl.map fun (g:Glass)=>g.index).getD m [])/\m < gl.length
  | _=>vl=.non)
 sg:Ma.Sz 60 e.gap
 sc:Ma.Sz 60 e.curve
 sk:Ma.Sz 60 e.conic
theorem an1.mono {K:W.Frag}{CE:Addr}{G G':Hp}{v:V}{e:Elem}{gl:List Glass}(s:j6 G G')(h:an1 K CE G v e gl):an1 K CE G' v e gl:=by
 obtain ⟨⟨x,dx,vg,vl,vc,vk,h1,h2,h3,h4,h5,h6⟩,a,b,c⟩:=h
 refine ⟨(F5 x dx vg vl vc vk h1 (s _ _ h2) (Fr.mono _ _ _ _ s h3) (Fr.mono _ _ _ _ s h4) (Fr.mono _ _ _ _ s h5) ?_),a,b,c⟩
 cases hk:e.kind with
 | surface m=>rw [hk] at h6;exact ⟨h6.1.mono s,h6.2⟩
 | mirror=>rw [hk] at h6;exact h6
 | halt_=>rw [hk] at h6;exact h6
structure Mdl (P:Program)(w:World)(K:W.Frag)(mg:Str->Option Value)(base:Heap)(k:Nat)(C:Addr)(x:Str)(ps:List Str)(sp:Sp):Prop where
 cl:Cls K C
 m:mg x=some (.ref C)
 ex:∃ f fd,Mk K C f/\l6 P w K mg base (cxX P w) k f fd ps sp/\P7 K fd ps []
section
variable {w:World}{K:W.Frag}{mg:Str->Option Value}{base:Heap}{CE:Addr}
structure Te (K:W.Frag)(CE:Addr):Prop where
 cl:Cls K CE
 n1:l8 K CE "word"
 n2:l8 K CE "gap"
 n3:l8 K CE "glass"
 n4:l8 K CE "curve"
 n5:l8 K CE "conic"
def bN9 (CE:Addr):Sp:=fun vs H Q _=>∃ (x dx:Addr) (a1 a2 a3 a4 a5:V),vs=[.ref x,a1,a2,a3,a4,a5]/\H x=some (.ins CE dx [])/\Q .non (upd H x (.ins CE dx (ef a1 a2 a3 a4 a5)))
theorem bO7:g9 ["self","word","gap","glass","curve","conic"] ["self","word","gap","glass","curve","conic"] (d7 O5):=⟨rfl,rfl,rfl,by decide +kernel,rfl,by decide +kernel,by decide +kernel⟩
theorem bQ1 {f:Addr}{fd:FuncData}(F:Fun K "__init__" "Element.__init__" O5 f fd)(T:Te K CE):l6 prog w K mg base (cxX prog w) 1 f fd ["self","word","gap","glass","curve","conic"] (bN9 CE):=by
 refine F.okX bO7 (fun vs H Q E h=>?_) (fun cdv A outer s H vs Q E hr h=>?_)
 ·obtain ⟨x,dx,a1,a2,a3,a4,a5,rfl,_⟩:=h;rfl
 ·obtain ⟨x,dx,a1,a2,a3,a4,a5,rfl,hx,k⟩:=h
  refine a0 _ (c6 (A0 (pv 0) (pv 1) rfl) (c6 (A0 (pv 0) (pv 2) rfl) (c6 (A0 (pv 0) (pv 3) rfl) (c6 (A0 (pv 0) (pv 4) rfl) (d5 (A0 (pv 0) (pv 5) rfl)))))) ?_
  refine a0 _ rfl (a0 _ rfl (l0 x CE dx _ rfl hx T.cl T.n1 (by show 0 < 1000;decide) ?_))
  refine a0 _ rfl (a0 _ rfl (l0 x CE dx _ rfl c7 T.cl T.n2 (by show 1 < 1000;decide) ?_))
  rw [A5]
  refine a0 _ rfl (a0 _ rfl (l0 x CE dx _ rfl c7 T.cl T.n3 (by show 2 < 1000;decide) ?_))
  rw [A5]
  refine a0 _ rfl (a0 _ rfl (l0 x CE dx _ rfl c7 T.cl T.n4 (by show 3 < 1000;decide) ?_))
  rw [A5]
  refine a0 _ rfl (a0 _ rfl (l0 x CE dx _ rfl c7 T.cl T.n5 (by show 4 < 1000;decide) ?_))
  rw [A5]
  exact k
end
section
variable {X:Cx}{k:Nat}{C:Addr}{x:Str}{ps:List Str}{sp:Sp}{E:XK}{p pos:Pos}{e:Expr}{es:List Expr}{t:TA}
theorem aB9 (D:Mdl X.prog X.w X.K X.mg X.base k C x ps sp)(hr:C2 (k+1) X.A)(hx:B3 (cxX X.prog X.w) X E)(ha:PA X (e::es) t)(hg:Gl X x:=by rfl)(hdb:(x == ("__debug__" : Str))=false:=by decide)
  (he:starEach (e::es) X.env=(false,eval e X.env)::starEach es X.env:=by rfl) (hpl:(backTo pos (starEach es X.env)).any (·.1)=false:=by rfl) :
  PE X (.Call (.Name x p) (e::es) [] pos) (bz6 C sp [] E t):=by
 obtain ⟨f,fd,M,F,hb⟩:=D.ex
 exact bs2 M F hr hg D.m hb .nil hx ha hdb he hpl
end
section
variable {w:World}{K:W.Frag}{mg:Str->Option Value}{base:Heap}{CN CF CR CE:Addr}
theorem aa8 {s:String}{t:Ln.Text.Tok}(h:isK (.w s) t=true):t=.word (Ln.ascii s):=eq_of_beq h
def bd5 (t:Ln.Text.Tok):Prop:=isK (.w "surface") t=true\/isK (.w "mirror") t=true\/isK (.w "stop") t=true
def bg0 (K:W.Frag)(CR CF CE:Addr):Sp:=fun vs H Q E=>∃ (G:Hp) (r:Addr) (b:Bytes) (p:Nat) (d:Addr) (kvs:List (List Key×V)) (gl:List Glass) (dn:Addr) (kn:List (List Key×V)) (others:List Elem),vs=[.ref r,.ref d,.ref dn]/\j6 G H/\A2 K CR G H r b p/\Own G H d (.dT kvs)/\Y2 K G kvs gl/\Own G H dn (.dT kn)/\an0 kn (others.map (·.name))/\kn.length=others.length/\d≠dn/\others.length<=64/\bd5 (g8 b p).1 /\
 PK CF (Ma.al0 gl others (g8 b p).1) (fun e p'=>others.length < 64->∀ v G' H' kn',Ext [r,dn] G H G' H'->A2 K CR G' H' r b p'->Own G' H' dn (.dT kn')->an0 kn' ((others++[e]).map (·.name))->kn'.length=others.length+1->an1 K CE G' v e gl->Q v H') b p E
theorem aV8 (l:List Elem):Ma.az7 l=fun b=>(l.map (·.name)).any fun n=>n == b:=by
 funext b
 unfold Ma.az7
 rw [List.any_map];rfl
def bM6 (n:Bytes)(g:Rat)(kd:Ln.Kind)(c k:Rat):P Elem:=Ma.F3 >>= fun o=>Ma.x8 (.m 59) >>= fun _=>pure ⟨n,g,kd,c,k,o⟩
theorem aG7 {gl:List Glass}{l l':List Lex}{i:Nat}(h:Ln.Text.glassNamed gl l=.ok (i,l')):i < gl.length:=by
 unfold Ln.Text.glassNamed at h
 rw [Ma.c8] at h
 cases hx:Ln.Text.name l with
 | error e=>rw [hx] at h;cases h
 | ok x =>
  rw [hx] at h
  dsimp only at h
  cases hj:(gl.map fun (g:Glass)=>g.name).idxOf? x.1.2 with
  | none=>rw [hj] at h;cases h
  | some j =>
   rw [hj] at h
   cases h
   obtain ⟨hlt,_⟩:=List.findIdx?_eq_some_iff_getElem.mp hj
   rw [List.length_map] at hlt;exact hlt
theorem V8:g9 ["reader","glasses","names","word","gap","glass","curve","conic"] ["reader","glasses","names"] (d7 N9):=⟨rfl,rfl,rfl,by decide +kernel,rfl,by decide +kernel,by decide +kernel⟩
theorem ae8 {x y:Str}{A B:Prop}(h1:x=y->A)(h2:x≠y->B):if (decide (V.str x=V.str y))=true then A else B:=by
 by_cases h:x=y
 ·rw [if_pos (by simp [h])];exact h1 h
 ·rw [if_neg (by simp [h])];exact h2 h
theorem bK2 {x y:Str}{A B:Prop}(h1:x≠y->A)(h2:x=y->B):if (!decide (V.str x=V.str y))=true then A else B:=by
 by_cases h:x=y
 ·rw [if_neg (by simp [h])];exact h2 h
 ·rw [if_pos (by simp [h])];exact h1 h
theorem bK0 {t:Ln.Text.Tok}(h:isK (.w "surface") t=true):kdS t="surface":=by rw [aa8 h];decide +kernel
theorem bl8 {t:Ln.Text.Tok}(h:isK (.w "mirror") t=true):kdS t="mirror":=by rw [aa8 h];decide +kernel
theorem bl6 {t:Ln.Text.Tok}(h:isK (.w "stop") t=true):kdS t="stop":=by rw [aa8 h];decide +kernel
theorem bA8:("mirror" : Str)≠"surface":=by decide +kernel
theorem bA6:("stop" : Str)≠"surface":=by decide +kernel
theorem bA7:("surface" : Str)≠"stop":=by decide +kernel
theorem bB0:("mirror" : Str)≠"stop":=by decide +kernel
theorem bc6 {s s':String}{t:Ln.Text.Tok}(h:isK (.w s) t=true)(ne:Ln.ascii s≠Ln.ascii s'):isK (.w s') t=false:=by
 rw [aa8 h]
 exact beq_eq_false_iff_ne.mpr fun z=>ne (Ln.Text.Tok.word.inj z)
theorem bH8 {f:Addr}{fd:FuncData}(F:Fun K "read_element" "read_element" N9 f fd)(T:Tn K mg CN CF CR)(Z:Tq K mg)(D:Rdr w K mg base CR CF)(DE:Mdl prog w K mg base 1 CE "Element" ["self","word","gap","glass","curve","conic"] (bN9 CE))(Dn:Def prog w K mg base 8 "read_new_name" ["reader","names"] (aj1 K CR CF))
  (Du:Def prog w K mg base 9 "read_number" ["reader"] (spM K CR CF Ma.z8 (Rq K))) (Dk:Def prog w K mg base 8 "read_known_glass" ["reader","glasses"] (aA2 K CR CF)) (Dc:Def prog w K mg base 11 "read_curve" ["reader"] (spM K CR CF Ma.O7 (Rq K)))
  (Do:Def prog w K mg base 11 "read_conic" ["reader"] (spM K CR CF Ma.T3 (Rq K))) (Dp:Def prog w K mg base 10 "pass_clear" ["reader"] (spM K CR CF Ma.F3 (fun _ v _=>v=.non))):l6 prog w K mg base (cxX prog w) 12 f fd ["reader","glasses","names"] (bg0 K CR CF CE):=by
 refine F.okX V8 (fun vs H Q E h=>?_) (fun cdv A outer s H vs Q E hr h=>?_)
 ·obtain ⟨G,r,b,p,d,kvs,gl,dn,kn,others,rfl,_⟩:=h;rfl
 ·obtain ⟨G,r,b,p,d,kvs,gl,dn,kn,others,rfl,sm,hR,ho,hg,hn,hkn,hln,hdd,hle,ht3,kk⟩:=h
  have hr2:=hr.mono (show 2<=11 by decide)
  have hr3:=hr.mono (show 3<=11 by decide)
  have hr6:=hr.mono (show 6<=11 by decide)
  have hr7:=hr.mono (show 7<=11 by decide)
  have hr8:=hr.mono (show 8<=11 by decide)
  have hr9:=hr.mono (show 9<=11 by decide)
  have hr10:=hr.mono (show 10<=11 by decide)
  have hu:=aT2 hr
  obtain ⟨aZ,mZ,hZ⟩:=Z.zero_
  refine a0 _ (c6 (q0 (j5 E0 (w8 ay3 (by rfl) T.len_ boot_len (b0 (pv 2) c9)) (pgi T.most64_) (j8 _)) (d5 (i8 (pmr D.refuse T.cl hr3 d4 (pv 0) (b0 (pgi T.k5) c9)))) j3)
   (c6 (h9 (i:=3) V8.nd rfl (Or.inl rfl) (m7 o8 (l9 (pv 0) rfl) g7 (fun _ _=>rfl)))
   (c6 (i8 (ag1 D.step T.cl hr6 d4 (pv 0)))
   (c6 (aS0 hu (pv 2) (d9 Dn hr8 d4 (b0 (pv 0) (b0 (pv 2) c9))) aG2 rfl)
   (c6 (i8 (pmr D.take T.cl hr7 d4 (pv 0) (b0 i9 c9)))
   (c6 (h9 (i:=4) V8.nd rfl (Or.inl rfl) (d9 Du hr9 d4 (b0 (pv 0) c9)))
   (c6 (h9 (i:=5) V8.nd rfl (Or.inl rfl) bF3)
   (c6 (h9 (i:=6) V8.nd rfl (Or.inl rfl) (A6 (v:=.ref aZ) (by rfl) mZ rfl))
   (c6 (h9 (i:=7) V8.nd rfl (Or.inl rfl) (A6 (v:=.ref aZ) (by rfl) mZ rfl))
   (M6 (q0 (j5 E0 (pv 3) i9 (j8 _)) (c6 (i8 (pmr D.take T.cl hr7 d4 (pv 0) (b0 i9 c9))) (d5 (h9 (i:=5) V8.nd rfl (Or.inl rfl) (d9 Dk hr8 d4 (b0 (pv 0) (b0 (pv 1) c9)))))) j3)
   (M6 (q0 (j5 bA5 (pv 3) i9 (j8 _)) (c6 (h9 (i:=6) V8.nd rfl (Or.inl rfl) (d9 Dc hr d4 (b0 (pv 0) c9))) (d5 (h9 (i:=7) V8.nd rfl (Or.inl rfl) (d9 Do hr d4 (b0 (pv 0) c9))))) j3)
   (c6 (i8 (d9 Dp hr10 d4 (b0 (pv 0) c9)))
   (c6 (i8 (pmr D.take T.cl hr7 d4 (pv 0) (b0 i9 c9)))
   (d5 (i4 (aB9 DE hr2 d4 (b0 (pv 3) (b0 (pv 4) (b0 (pv 5) (b0 (pv 6) (b0 (pv 7) c9))))))))))))))))))))) ?_
  have ndr:d≠r:=hR.nd ho
  have nnr:dn≠r:=hR.nd hn
  obtain ⟨hpl,dx,tt,tk,hro,_,htk⟩:=id hR
  have hover:z6 (g8 b p).1=false:=by
   rcases ht3 with z | z | z
   ·exact D7 (k:=.w "surface") (by decide +kernel) z
   ·exact D7 (k:=.w "mirror") (by decide +kernel) z
   ·exact D7 (k:=.w "stop") (by decide +kernel) z
  refine a0 _ rfl (i5 dn _ rfl hn.at_ rfl (a0 _ rfl (K9 (fun h1=>?_) (fun h1=>?_))))
  ·rw [hln] at h1
   unfold Ma.al0 at kk
   rw [if_pos (by omega)] at kk
   exact d8 r rfl (hR.m m3) (Z1 G r b p 5 rfl sm hR kk.refuse)
  have h1':others.length≠64:=by rw [hln] at h1;omega
  have hlt:others.length < 64:=by omega
  unfold Ma.al0 at kk
  rw [if_neg h1'] at kk
  refine a0 _ rfl (j1 r CR dx _ _ rfl hro.at_ T.cl T.nToken (O6 _ _) (j0 tk _ _ _ rfl rfl (sm.seqT htk) rfl ?_))
  refine d8 r rfl (hR.m m5) (l7 G r b p rfl sm hR (fun G1 H1 e1 hR1=>?_))
  have k1:=kk.pass hover
  rw [aV8] at k1
  have hn1:=hn.ext e1 (by simpa using nnr)
  refine a0 _ rfl (a0 _ rfl (a0 _ rfl (Z0 G1 r b _ dn kn (others.map (·.name)) rfl e1.sub hR1 hn1 hkn (k1.call fun nb v G2 H2 p2 hm2 e2 hR2 hv k2=>?_))))
  obtain ⟨tn,rfl,htn⟩:=hv
  have e12:=e1.trans e2
  have hn2:=hn.ext e12 (by simpa using nnr)
  have hnt:P8 kn (key nb)=none:=by
   have h2:=ar7 hm2
   have h3:=hkn.some_iff nb
   rw [h2] at h3
   cases z:P8 kn (key nb) with
   | none=>rfl
   | some x=>rw [z] at h3;cases h3
  refine g6 dn _ rfl (bb4.t (k:=key nb) hn2.at_ (by rw [as3];exact e12.sub _ _ htn) (by rw [hln];exact Nat.lt_of_lt_of_le hlt (by decide))) ?_
  rw [aF6 _ hnt]
  have e3:Ext [r,dn] G H G2 (upd H2 dn (.dT (kn++[(key nb,.bl true)]))):=(Ext.two e12).put (.inr (by simp)) hn2.fr
  have hR3:A2 K CR G2 (upd H2 dn (.dT (kn++[(key nb,.bl true)]))) r b p2:=hR2.ext (M:=[dn]) ((Ext.refl e12.sub).put (.inr (by simp)) hn2.fr) (by simpa using fun z=>nnr z.symm)
  have hn3:Own G2 (upd H2 dn (.dT (kn++[(key nb,.bl true)]))) dn (.dT (kn++[(key nb,.bl true)])):=⟨c7,hn2.fr⟩
  have hkn3:an0 (kn++[(key nb,.bl true)]) (others.map (·.name)++[nb]):=by
   unfold an0 at hkn ⊢
   rw [List.map_append,List.map_append,hkn];rfl
  generalize upd H2 dn (.dT (kn++[(key nb,.bl true)]))=H3 at e3 hR3 hn3
  refine d8 r rfl (hR3.m m6) (z7 G2 r b p2 (.w "after") rfl e3.sub hR3 (by decide +kernel) (k2.take (by decide +kernel) fun v4 G4 H4 _ e4 hR4 _ k4=>?_))
  refine a0 _ rfl (l7 G4 r b _ rfl e4.sub hR4 (k4.call fun g v5 G5 H5 p5 _ e5 hR5 hv5 k5=>?_))
  have e35:=e4.trans e5
  have e05:Ext [r,dn] G H G5 H5:=e3.trans (Ext.two e35)
  have hn5:=hn3.ext e35 (by simpa using nnr)
  have ho5:=ho.ext e05 (by simp [ndr,hdd])
  have hg5:=hg.mono e05.grow
  refine a0 (fun σ' H'=>∃ (G':Hp) (p':Nat) (kd:Ln.Kind) (vl:V),σ'=[some (.ref r),some (.ref d),some (.ref dn),some (.str (kdS (g8 b p).1)),some v5,some vl,some (.ref aZ),some (.ref aZ)]/\kdS (g8 b p).1=az2 kd/\Ext [r] G5 H5 G' H'/\A2 K CR G' H' r b p'/\(match kd with
    | .surface m=>Tri K G' vl ((gl.map fun (g:Glass)=>g.index).getD m [])/\m < gl.length
    | _=>vl=.non)/\PK CF (Ma.D2 nb g kd (decide (kd=.halt_))) (fun e p'=>others.length < 64->∀ v G' H' kn',Ext [r,dn] G H G' H'->A2 K CR G' H' r b p'->Own G' H' dn (.dT kn')->an0 kn' ((others++[e]).map (·.name))->kn'.length=others.length+1->an1 K CE G' v e gl->Q v H') b p' E) ?_ ?_
  ·refine d8 _ rfl rfl (a0 _ rfl (ae8 (fun hs=>?_) (fun hs=>?_)))
   ·have hsur:isK (.w "surface") (g8 b p).1=true:=by
     rcases ht3 with z | z | z
     ·exact z
     ·rw [bl8 z] at hs;exact absurd hs bA8
     ·rw [bl6 z] at hs;exact absurd hs bA6
    rw [if_pos hsur] at k5
    refine d8 r rfl (hR5.m m6) (z7 G5 r b p5 (.w "into") rfl e5.sub hR5 (by decide +kernel) (k5.take (by decide +kernel) fun v6 G6 H6 _ e6 hR6 _ k6=>?_))
    have ho6:=ho5.ext e6 (by simpa using ndr)
    refine a0 _ rfl (a0 _ rfl (Z0 G6 r b _ d kvs gl rfl e6.sub hR6 ho6 (hg5.mono e6.grow) (k6.call fun m v7 G7 H7 p7 hm7 e7 hR7 hv7 k7=>?_)))
    exact l0 G7 p7 (.surface m) v7 rfl hs (e6.trans e7) hR7 ⟨hv7,aG7 hm7⟩ k7
   ·rcases ht3 with z | z | z
    ·exact absurd (bK0 z) hs
    ·rw [if_neg (by rw [bc6 z (by decide +kernel)];decide),if_pos (bc6 z (by decide +kernel))] at k5
     exact l0 G5 p5 .mirror .non rfl (bl8 z) (Ext.refl e5.sub) hR5 rfl k5
    ·rw [if_neg (by rw [bc6 z (by decide +kernel)];decide),if_neg (by rw [z];decide)] at k5
     exact l0 G5 p5 .halt_ .non rfl (bl6 z) (Ext.refl e5.sub) hR5 rfl k5
  rintro σ' H6 ⟨G6,p6,kd,vl,rfl,hkd,e6,hR6,hvl,k6⟩
  refine a0 (fun σ' H'=>∃ (G':Hp) (p':Nat) (vc vk:V) (c k:Rat),σ'=[some (.ref r),some (.ref d),some (.ref dn),some (.str (kdS (g8 b p).1)),some v5,some vl,some vc,some vk]/\Ext [r] G6 H6 G' H'/\A2 K CR G' H' r b p'/\Rq K G' vc c/\Rq K G' vk k/\PK CF (bM6 nb g kd c k) (fun e p'=>others.length < 64->∀ v G' H' kn',Ext [r,dn] G H G' H'->A2 K CR G' H' r b p'->Own G' H' dn (.dT kn')->an0 kn' ((others++[e]).map (·.name))->kn'.length=others.length+1->an1 K CE G' v e gl->Q v H') b p' E) ?_ ?_
  ·refine d8 _ rfl rfl (a0 _ rfl (bK2 (fun hs=>?_) (fun hs=>?_)))
   ·have hnh:kd≠.halt_:=fun z=>hs (by rw [hkd,z];rfl)
    rw [decide_eq_false hnh] at k6
    refine a0 _ rfl (l7 G6 r b p6 rfl e6.sub hR6 (PK.call (C:=_) k6 fun c v7 G7 H7 p7 _ e7 hR7 hv7 k7=>?_))
    refine a0 _ rfl (l7 G7 r b p7 rfl e7.sub hR7 (PK.call (C:=_) k7 fun z v8 G8 H8 p8 _ e8 hR8 hv8 k8=>?_))
    exact F5 G8 p8 v7 v8 c z rfl (e7.trans e8) hR8 ⟨Fr.mono _ _ _ _ e8.grow hv7.1,hv7.2⟩ hv8 k8
   ·have hh:kd=.halt_:=by
     cases kd with
     | halt_=>rfl
     | mirror=>rw [hkd] at hs;exact absurd hs bB0
     | surface m=>rw [hkd] at hs;exact absurd hs bA7
    rw [decide_eq_true hh] at k6
    exact F5 G6 p6 (.ref aZ) (.ref aZ) 0 0 rfl (Ext.refl e6.sub) hR6 ⟨(a0 aZ rfl (hZ _)),sz0⟩ ⟨(a0 aZ rfl (hZ _)),sz0⟩ k6
  rintro σ' H7 ⟨G7,p7,vc,vk,c,kc,rfl,e7,hR7,hvc,hvk,k7⟩
  refine a0 _ rfl (l7 G7 r b p7 rfl e7.sub hR7 (PK.call (C:=_) k7 fun o v8 G8 H8 p8 _ e8 hR8 _ k8=>?_))
  refine d8 r rfl (hR8.m m6) (z7 G8 r b p8 (.m 59) rfl e8.sub hR8 (by decide +kernel) (k8.take (by decide +kernel) fun v9 G9 H9 _ e9 hR9 _ k9=>?_))
  have e59:Ext [r] G5 H5 G9 H9:=((e6.trans e7).trans e8).trans e9
  have e09:Ext [r,dn] G H G9 H9:=e05.trans (Ext.two e59)
  have hn9:=hn5.ext e59 (by simpa using nnr)
  refine a0 _ rfl (a0 _ rfl (a0 _ rfl (a0 _ rfl (a0 _ rfl (fun x dx' hx hdx hne=>?_)))))
  have eA:Ext [r,dn] G H G9 (upd H9 dx' (.own x)):=e09.lend hdx
  have hx1:upd H9 dx' (.own x) x=none:=by rw [d6 (fun z=>hne z.symm)];exact hx
  have eB:=eA.lend hx1 (o:=.ins CE dx' [])
  refine m9 x dx' _ _ _ (i5 _ _ rfl c7 rfl ?_)
  rw [A5]
  have eC:=eA.lay hx1 (o:=.ins CE dx' (ef (.str (kdS (g8 b p).1)) v5 vl vc vk))
  have eD:Ext [] G9 H9 (upd G9 x (.ins CE dx' (ef (.str (kdS (g8 b p).1)) v5 vl vc vk))) (upd (upd H9 dx' (.own x)) x (.ins CE dx' (ef (.str (kdS (g8 b p).1)) v5 vl vc vk))):=((Ext.refl e9.sub).lend hdx).lay hx1
  have g57:j6 G5 G9:=e59.grow
  have gD:j6 G9 (upd G9 x (.ins CE dx' (ef (.str (kdS (g8 b p).1)) v5 vl vc vk))):=eD.grow
  refine (PK.done k9) hlt _ _ _ _ eC (hR9.ext eD (by simp)) (hn9.ext eD (by simp)) ?_ ?_ ⟨(F5 x dx' v5 vl vc vk rfl ?_ ?_ ?_ ?_ ?_),hv5.2,hvc.2,hvk.2⟩
  ·rw [List.map_append];exact hkn3
  ·rw [List.length_append,hln];rfl
  ·rw [c7,hkd]
  ·exact Fr.mono _ _ _ _ (g57.trans gD) hv5.1
  ·exact Fr.mono _ _ _ _ ((e8.grow.trans e9.grow).trans gD) hvc.1
  ·exact Fr.mono _ _ _ _ ((e8.grow.trans e9.grow).trans gD) hvk.1
  ·cases kd with
   | surface m=>exact ⟨hvl.1.mono (((e7.grow.trans e8.grow).trans e9.grow).trans gD),hvl.2⟩
   | mirror=>exact hvl
   | halt_=>exact hvl
end
end Th
set_option maxHeartbeats 2000000
namespace Th
open PySem PySem.Spec PyProof.Rows L2
open Ln (Bytes Glass Elem System_)
open Ln.Text (isDigit natural isLetter isMark tokenIn numberIn WORDS NAME P Lex FUEL)
open Ma (isK P5 l4 g8 Lx z6 P6)
def four:List Ma.K:=[.w "surface",.w "mirror",.w "stop",.fin]
section
variable {β:Type}{CF:Addr}{b:Bytes}{p:Nat}{E:XK}{gl:List Glass}{C:List Elem->Nat->Prop}
theorem bn4 {f:Nat}{l:List Elem}(hl:l.length<=64)(ht:bd5 (g8 b p).1)(h:PK CF (Ln.Text.elems gl (f+1) l) C b p E):PK CF (Ma.al0 gl l (g8 b p).1 >>= fun e=>Ln.Text.elems gl f (l++[e])) C b p E:=by
 have hb:¬ (g8 b p).1=.broken:=fun z=>by rw [z] at ht;rcases ht with q | q | q<;>cases q
 have hf:isK .fin (g8 b p).1=false:=by
  rcases ht with q | q | q<;>(rw [aa8 q];rfl)
 refine h.later ?_
 conv=>lhs;rw [Ma.B4 b p,Ma.af0 _ _ _ _ _ hb,hf,if_neg (by decide),Ma.c8]
 conv=>rhs;rw [Ma.c8,Ma.B4 b p]
 have:=Ma.bx6 gl l hl ⟨l4 b p,(g8 b p).1⟩ (if z6 (g8 b p).1=true then [] else Lx b (l4 b p+(g8 b p).2)) ht
 rw [<-this]
theorem ba3 {f:Nat}{l:List Elem}(hf:isK .fin (g8 b p).1=true)(h:PK CF (Ln.Text.elems gl (f+1) l) C b p E):C l p:=by
 have hb:¬ (g8 b p).1=.broken:=fun z=>by rw [z] at hf;cases hf
 unfold PK at h
 have e:Ln.Text.elems gl (f+1) l (Lx b p)=.ok (l,Lx b p):=by
  conv=>lhs;rw [Ma.B4 b p,Ma.af0 _ _ _ _ _ hb,if_pos hf,<-Ma.B4 b p]
 rw [e] at h
 exact h p rfl
theorem ah2 {f:Nat}{l:List Elem}{Q1:Prop}(h:PK CF (Ln.Text.elems gl (f+1) l) C b p E)
  (cont:(g8 b p).1≠.broken->(four.any fun k=>isK k (g8 b p).1)=true->Q1):match Ma.expect four (Lx b p) with
   | .ok _=>Q1
   | .error e=>af3 CF E e:=by
 rw [D9]
 by_cases hb:(g8 b p).1=.broken
 ·rw [if_pos hb]
  unfold PK at h
  have e:Ln.Text.elems gl (f+1) l (Lx b p)=.error (1,l4 b p):=by
   rw [Ma.B4 b p]
   show (Ln.Text.peek >>= _) _=_
   rw [Ma.c8,Ma.A7,if_pos hb]
  rw [e] at h;exact h
 ·rw [if_neg hb]
  cases hz:four.any fun k=>isK k (g8 b p).1 with
  | true=>rw [if_pos rfl];exact cont hb hz
  | false =>
   rw [if_neg (by decide)]
   unfold PK at h
   have e:Ln.Text.elems gl (f+1) l (Lx b p)=.error (2,l4 b p):=by
    rw [Ma.B4 b p]
    exact Ma.ba4 gl f l _ _ hb hz
   rw [e] at h;exact h
end
theorem bd4 {t:Ln.Text.Tok}(h:(four.any fun k=>isK k t)=true)(hf:isK .fin t=false):bd5 t:=by
 simp only [four,List.any_cons,List.any_nil,Bool.or_false,Bool.or_eq_true,hf] at h
 rcases h with h | h | h
 ·exact .inl h
 ·exact .inr (.inl h)
 ·exact .inr (.inr (by simpa using h))
def af2 (K:W.Frag)(CE:Addr)(G:Hp)(v:V)(es:List Elem)(gl:List Glass):Prop:=∃ L vs,v=.ref L/\G L=some (.lst vs)/\Paired (fun v e=>an1 K CE G v e gl) vs es
theorem af2.mono {K:W.Frag}{CE:Addr}{G G':Hp}{v:V}{es:List Elem}{gl:List Glass}(s:j6 G G')(h:af2 K CE G v es gl):af2 K CE G' v es gl:=by
 obtain ⟨L,vs,h1,h2,h3⟩:=h
 exact g6 L vs h1 (s _ _ h2) (Paired.map' (fun _ _ z=>z.mono s) h3)
theorem Ext.drop {M:List Addr}{x:Addr}{G H G1 H1:Hp}(hx:H x=none)(e:Ext (x::M) G H G1 H1):Ext M G H G1 H1 :=
 ⟨e.sub0,e.sub,e.grow,fun c o hc hm=>e.keep c o hc fun z=>by
  rcases List.mem_cons.mp z with q | q
  ·rw [q,hx] at hc;cases hc
  ·exact hm q,e.there,e.fresh⟩
theorem Ext.swap {x y:Addr}{G H G1 H1:Hp}(e:Ext [x,y] G H G1 H1):Ext [y,x] G H G1 H1:=e.mono fun b hb=>by simp at hb ⊢;exact hb.symm
section
variable {w:World}{K:W.Frag}{mg:Str->Option Value}{base:Heap}{CN CF CR CE CS:Addr}
def bf6 (K:W.Frag)(CR CF CE:Addr):Sp:=fun vs H Q E=>∃ (G:Hp) (r:Addr) (b:Bytes) (p:Nat) (d:Addr) (kvs:List (List Key×V)) (gl:List Glass),vs=[.ref r,.ref d]/\j6 G H/\A2 K CR G H r b p/\Own G H d (.dT kvs)/\Y2 K G kvs gl /\
 PK CF (Ln.Text.elems gl FUEL []) (fun es p'=>∀ v G' H',Ext [r] G H G' H'->A2 K CR G' H' r b p'->af2 K CE G' v es gl->es.length<=64->Q v H') b p E
theorem aM1:g9 ["reader","glasses","names","path"] ["reader","glasses"] (d7 aa0):=⟨rfl,rfl,rfl,by decide +kernel,rfl,by decide +kernel,by decide +kernel⟩
theorem bH3 {f:Addr}{fd:FuncData}(F:Fun K "read_path" "read_path" aa0 f fd)(T:Tn K mg CN CF CR)(D:Rdr w K mg base CR CF)(De:Def prog w K mg base 12 "read_element" ["reader","glasses","names"] (bg0 K CR CF CE)) :
  l6 prog w K mg base (cxX prog w) 13 f fd ["reader","glasses"] (bf6 K CR CF CE):=by
 refine F.okX aM1 (fun vs H Q E h=>?_) (fun cdv A outer s H vs Q E hr h=>?_)
 ·obtain ⟨G,r,b,p,d,kvs,gl,rfl,_⟩:=h;rfl
 ·obtain ⟨G,r,b,p,d,kvs,gl,rfl,sm,hR,ho,hg,kk⟩:=h
  have hr1:=hr.mono (show 1<=12 by decide)
  have hr4:=hr.mono (show 4<=12 by decide)
  refine a0 _ (c6 (h9 (i:=2) aM1.nd rfl (Or.inl rfl) aG1) (c6 (h9 (i:=3) aM1.nd rfl (Or.inl rfl) (B2 c9))
   (c6 (i8 (pmr D.expect T.cl hr4 d4 (pv 0) (b0 (y1 (b0 i9 (b0 i9 (b0 i9 (b0 i9 c9))))) c9)))
   (c6 (U3 C9 (aq6 (B7 (pmr D.sees T.cl hr1 d4 (pv 0) (b0 i9 c9))))
    (c6 (i8 (aw7 PySem.F.plainAttrs_list PySem.F.slot_list_append PySem.F.type_list_append U5 (pv 3) (b0 (d9 De hr d4 (b0 (pv 0) (b0 (pv 1) (b0 (pv 2) c9)))) c9)))
    (d5 (i8 (pmr D.expect T.cl hr4 d4 (pv 0) (b0 (y1 (b0 i9 (b0 i9 (b0 i9 (b0 i9 c9))))) c9))))))
   (d5 (i4 (pv 3))))))) ?_
  have ndr:d≠r:=hR.nd ho
  intro dn hdn
  have e0:Ext [] G H G (upd H dn (.dT [])):=(Ext.refl sm).lend hdn
  refine ⟨(by show 0<=sizeLine;decide),fun L hL=>?_⟩
  have e1:=e0.lend hL (o:=.lst [])
  have hLd:L≠dn:=fun z=>by rw [z,c7] at hL;cases hL
  have hL0:H L=none:=e0.none_of hL
  have hR1:=hR.ext e1 (by simp)
  have on1:Own G (upd (upd H dn (.dT [])) L (.lst [])) dn (.dT []):=⟨by rw [d6 (fun z=>hLd z.symm),c7],sm.free hdn⟩
  have oL1:Own G (upd (upd H dn (.dT [])) L (.lst [])) L (.lst []):=⟨c7,e0.sub.free hL⟩
  refine I0 r rfl (hR1.m m4) (by show 4<=sizeLine;decide) (fun t0 ht0=>?_)
  have e2:=e1.lay ht0 (o:=.tup [.str "surface",.str "mirror",.str "stop",.str "end"])
  have e12:Ext [] G (upd (upd H dn (.dT [])) L (.lst [])) _ _:=(Ext.refl e1.sub).lay ht0 (o:=.tup [.str "surface",.str "mirror",.str "stop",.str "end"])
  have hR2:=hR1.ext e12 (by simp)
  have on2:=on1.ext e12 (by simp)
  have oL2:=oL1.ext e12 (by simp)
  refine F5 _ r b p t0 four rfl e2.sub hR2 (.of c7) (by decide +kernel) (ah2 (f:=FUEL - 1) kk fun hb hany=>?_)
  generalize upd G t0 (.tup [.str "surface",.str "mirror",.str "stop",.str "end"])=G2 at e2 hR2 on2 oL2
  generalize upd (upd (upd H dn (.dT [])) L (.lst [])) t0 (.tup [.str "surface",.str "mirror",.str "stop",.str "end"])=H2 at e2 hR2 on2 oL2
  refine T9 (fun σ H'=>σ=[some (.ref r),some (.ref d),some (.ref dn),some (.ref L)]/\∃ (G':Hp) (p':Nat) (kn:List (List Key×V)) (vs:List V) (es:List Elem) (fu:Nat),Ext [r] G H G' H'/\A2 K CR G' H' r b p'/\Own G' H' dn (.dT kn)/\Own G' H' L (.lst vs)/\an0 kn (es.map (·.name))/\kn.length=es.length/\Paired (fun v e=>an1 K CE G' v e gl) vs es/\es.length<=64/\fu+1+es.length=FUEL/\(four.any fun k=>isK k (g8 b p').1)=true /\
    PK CF (Ln.Text.elems gl (fu+1) es) (fun es p'=>∀ v G' H',Ext [r] G H G' H'->A2 K CR G' H' r b p'->af2 K CE G' v es gl->es.length<=64->Q v H') b p' E) (fun _ H'=>match H' dn with
     | some (.dT kn)=>64 - kn.length
     | _=>0) ⟨rfl,m9 G2 p ([]) ([]) ([]) (j7 (FUEL - 1) ⟨e2.up,hR2,on2,oL2,rfl,rfl,.nil,(by decide),rfl,hany,kk⟩)⟩ ?_ (fun σ H Q Q' hq ⟨a1,a2,a3,a4,a5,a6,a7,a8,a9,a10,a11,a12,a13,a14,a15⟩=>(d8 a1 a2 a3 (z7 a4 a5 a6 a7 a8 a9 a10 a11 a12 (a0 a13 a14 (hq _ _ a15)))))
  rintro σ H3 ⟨rfl,G3,p3,kn,vs,es,fu,e3,hR3,on3,oL3,hkn,hln,hpd,hle,hfu,hany3,k3⟩
  refine d8 r rfl (hR3.m m1) (z7 G3 r b p3 .fin rfl (by decide +kernel) e3.sub hR3 (a0 _ rfl ?_))
  cases hf:isK .fin (g8 b p3).1 with
  | true =>
   refine aj9 (a0 _ rfl ?_)
   have eF:=e3.freeze oL3.at_ hL0
   have eG:Ext [] G3 H3 G3 H3:=Ext.refl e3.sub
   have sG:j6 G3 (upd G3 L (.lst vs)):=fun c o hc=>by
    have:c≠L:=fun z=>by rw [z,oL3.fr] at hc;cases hc
    rw [d6 this];exact hc
   refine ba3 hf k3 _ _ _ eF ?_ (g6 L vs rfl c7 (Paired.map' (fun _ _ z=>z.mono sG) hpd)) hle
   obtain ⟨h1,dx,t,tk,h2,h3,h4⟩:=hR3
   refine ⟨h1,Z2 dx t tk ⟨h2.at_,?_⟩ (sG.seq h3) (sG.seqT h4)⟩
   have:r≠L:=fun z=>by
    have:=h2.at_
    rw [z,oL3.at_] at this;cases this
   rw [d6 this];exact h2.fr
  | false =>
   have ht:=bd4 hany3 hf
   have hmu:(match H3 dn with
     | some (.dT kn)=>64 - kn.length
     | _=>0)=64 - es.length:=by rw [on3.at_];show 64 - kn.length=_;rw [hln]
   have hfu1:∃ f',fu=f'+1:=(j7 (fu - 1) (by
    have:FUEL=65538:=rfl
    omega))
   obtain ⟨f',rfl⟩:=hfu1
   have k4:=bn4 hle ht k3
   have ho3:=ho.ext e3 (by simpa using ndr)
   have hdd:d≠dn:=fun z=>by have:=ho.at_;rw [z,hdn] at this;cases this
   have hLr:L≠r:=fun z=>by
    obtain ⟨_,dx,t,tk,h2,_,_⟩:=hR3
    have:=h2.at_
    rw [<-z,oL3.at_] at this;cases this
   refine ag8 (d8 _ rfl (.inl ⟨rfl,j7 _ (SqL.of oL3.at_)⟩) (a0 _ rfl (a0 _ rfl (a0 _ rfl (m9 G3 r b p3 d (m9 kvs gl dn kn es ⟨rfl,e3.sub,hR3,ho3,hg.mono e3.grow,on3,hkn,hln,hdd,hle,ht,?_⟩))))))
   unfold PK
   have hbr:=Ma.c8 (Ma.al0 gl es (g8 b p3).1) (fun e=>Ln.Text.elems gl (f'+1) (es++[e])) (Lx b p3)
   unfold PK at k4
   cases hx:Ma.al0 gl es (g8 b p3).1 (Lx b p3) with
   | error e=>rw [hx] at hbr;rw [hbr] at k4;exact k4
   | ok x =>
    obtain ⟨e,l'⟩:=x
    rw [hx] at hbr
    rw [hbr] at k4
    intro p5 hl5 hlt v5 G5 H5 kn5 e5 hR5 on5 hkn5 hln5 hel
    have hl5':l'=Lx b p5:=hl5
    subst hl5'
    have k5:PK CF (Ln.Text.elems gl (f'+1) (es++[e])) (fun es p'=>∀ v G' H',Ext [r] G H G' H'->A2 K CR G' H' r b p'->af2 K CE G' v es gl->es.length<=64->Q v H') b p5 E:=k4
    have oL5:=oL3.ext e5 (by simp [hLr,hLd])
    have hvl:=Paired.length hpd
    refine u0 L _ _ rfl rfl oL5.at_ (Nat.lt_of_le_of_lt (show vs.length<=64 by omega) (by decide)) ?_
    have e35:Ext [r] G H G5 H5:=Ext.drop hdn (Ext.swap ((Ext.two e3).trans e5))
    have e6:=e35.put (.inl hL0) oL5.fr (o:=.lst (vs++[v5]))
    have e56:Ext [L] G5 H5 G5 (upd H5 L (.lst (vs++[v5]))):=(Ext.refl e5.sub).put (.inr (by simp)) oL5.fr
    have hR6:=hR5.ext e56 (by simpa using fun z=>hLr z.symm)
    have on6:=on5.ext e56 (by simpa using fun z=>hLd z.symm)
    have oL6:Own G5 (upd H5 L (.lst (vs++[v5]))) L (.lst (vs++[v5])):=⟨c7,oL5.fr⟩
    generalize upd H5 L (.lst (vs++[v5]))=H6 at e6 e56 hR6 on6 oL6
    refine I0 r rfl (hR6.m m4) (by show 4<=sizeLine;decide) (fun t7 ht7=>?_)
    have e7:=e6.lay ht7 (o:=.tup [.str "surface",.str "mirror",.str "stop",.str "end"])
    have e67:Ext [] G5 H6 _ _:=(Ext.refl e6.sub).lay ht7 (o:=.tup [.str "surface",.str "mirror",.str "stop",.str "end"])
    have on7:=on6.ext e67 (by simp)
    refine F5 _ r b p5 t7 four rfl e7.sub (hR6.ext e67 (by simp)) (.of c7) (by decide +kernel) (ah2 k5 fun hb7 hany7=>⟨⟨rfl,m9 _ p5 kn5 (vs++[v5]) (es++[e]) (j7 f' ⟨e7,hR6.ext e67 (by simp),on7,oL6.ext e67 (by simp),hkn5,?_,?_,?_,?_,hany7,k5⟩)⟩,?_⟩)
    ·rw [List.length_append];exact hln5
    ·exact Paired.snoc (Paired.map' (fun _ _ z=>(z.mono e5.grow).mono e67.grow) hpd) (hel.mono e67.grow)
    ·rw [List.length_append];show es.length+1<=64;omega
    ·rw [List.length_append];show f'+1+(es.length+1)=FUEL;omega
    ·rw [hmu,on7.at_]
     show 64 - kn5.length < _
     rw [hln5];omega
def sf (m p:V):List (Str×V):=z9 "path" p (z9 "medium" m [])
structure Ts (K:W.Frag)(CS:Addr):Prop where
 cl:Cls K CS
 n1:l8 K CS "medium"
 n2:l8 K CS "path"
def bN5 (CS:Addr):Sp:=fun vs H Q _=>∃ (x dx:Addr) (a1 a2:V),vs=[.ref x,a1,a2]/\H x=some (.ins CS dx [])/\Q .non (upd H x (.ins CS dx (sf a1 a2)))
theorem bO3:g9 ["self","medium","path"] ["self","medium","path"] (d7 S4):=⟨rfl,rfl,rfl,by decide +kernel,rfl,by decide +kernel,by decide +kernel⟩
theorem bP6 {f:Addr}{fd:FuncData}(F:Fun K "__init__" "System.__init__" S4 f fd)(T:Ts K CS):l6 prog w K mg base (cxX prog w) 1 f fd ["self","medium","path"] (bN5 CS):=by
 refine F.okX bO3 (fun vs H Q E h=>?_) (fun cdv A outer s H vs Q E hr h=>?_)
 ·obtain ⟨x,dx,a1,a2,rfl,_⟩:=h;rfl
 ·obtain ⟨x,dx,a1,a2,rfl,hx,k⟩:=h
  refine a0 _ (c6 (A0 (pv 0) (pv 1) rfl) (d5 (A0 (pv 0) (pv 2) rfl))) ?_
  refine a0 _ rfl (a0 _ rfl (l0 x CS dx _ rfl hx T.cl T.n1 (by show 0 < 1000;decide) ?_))
  refine a0 _ rfl (a0 _ rfl (l0 x CS dx _ rfl c7 T.cl T.n2 (by show 1 < 1000;decide) ?_))
  rw [A5]
  exact k
structure aK1 (K:W.Frag)(CS CE:Addr)(G:Hp)(v:V)(s:System_):Prop where
 ex:∃ x dx vm vp,v=.ref x/\G x=some (.ins CS dx (sf vm vp))/\Tri K G vm (Ma.triple s s.start)/\af2 K CE G vp s.elems s.glasses
 ok:P6 s.glasses
 st:s.start < s.glasses.length
 le:s.elems.length<=64
def be7:P System_:=(Ln.Text.glass [] >>= fun g=>Ln.Text.glasses FUEL [g]) >>= fun l=>Ma.x8 (.w "start") >>= fun _=>Ln.Text.glassNamed l >>= fun m=>Ma.x8 (.m 59) >>= fun _=>Ln.Text.elems l FUEL [] >>= fun es=>pure ⟨l,m,es⟩
theorem bD0:Ln.Text.system=be7:=by
 unfold be7
 rw [Ma.ab6]
 show (Ln.Text.glass [] >>= fun g=>Ln.Text.glasses FUEL [g] >>= fun l=>Ln.Text.word "start" >>= fun _=>Ln.Text.glassNamed l >>= fun m=>Ln.Text.mark 59 >>= fun _=>Ln.Text.elems l FUEL [] >>= fun es=>(pure ⟨l,m,es⟩:P System_))=_
 refine Ma.A1 fun g=>Ma.A1 fun l=>?_
 rw [Ma.ai7]
 refine Ma.A1 fun _=>Ma.A1 fun m=>?_
 rw [Ma.ai8]
def bM1 (K:W.Frag)(CS CE CF:Addr)(G H:Hp)(b:Bytes)(Q:VK)(E:XK):Prop:=match Ln.Text.read b with
 | .ok s=>∀ v G' H',Ext [] G H G' H'->aK1 K CS CE G' v s->Q v H'
 | .error e=>af3 CF E e
def bz9 (K:W.Frag)(CS CE CF:Addr):Sp:=fun vs H Q E=>∃ (G:Hp) (a:V) (b:Bytes),vs=[a]/\j6 G H/\Bs K G a b/\bM1 K CS CE CF G H b Q E
theorem aA8:g9 ["text","reader","glasses","medium"] ["text"] (d7 R9):=⟨rfl,rfl,rfl,by decide +kernel,rfl,by decide +kernel,by decide +kernel⟩
theorem bH1 {f:Addr}{fd:FuncData}(F:Fun K "read_system" "read_system" R9 f fd)(T:Tn K mg CN CF CR)(D:Rdr w K mg base CR CF)(DR:Mdl prog w K mg base 6 CR "Reader" ["self","text"] (bN7 K CR))(DS:Mdl prog w K mg base 1 CS "System" ["self","medium","path"] (bN5 CS))
  (Dg:Def prog w K mg base 12 "read_glasses" ["reader"] (av6 K CR CF)) (Dk:Def prog w K mg base 8 "read_known_glass" ["reader","glasses"] (aA2 K CR CF)) (Dp:Def prog w K mg base 13 "read_path" ["reader","glasses"] (bf6 K CR CF CE)) :
  l6 prog w K mg base (cxX prog w) 14 f fd ["text"] (bz9 K CS CE CF):=by
 refine F.okX aA8 (fun vs H Q E h=>?_) (fun cdv A outer s H vs Q E hr h=>?_)
 ·obtain ⟨G,a,b,rfl,_⟩:=h;rfl
 ·obtain ⟨G,a,b,rfl,sm,ha,kk⟩:=h
  have hr2:=hr.mono (show 2<=13 by decide)
  have hr7:=hr.mono (show 7<=13 by decide)
  have hr8:=hr.mono (show 8<=13 by decide)
  have hr12:=hr.mono (show 12<=13 by decide)
  refine a0 _ (c6 (h9 (i:=1) aA8.nd rfl (Or.inl rfl) (aB9 DR hr7 d4 (b0 (pv 0) c9)))
   (c6 (h9 (i:=2) aA8.nd rfl (Or.inl rfl) (d9 Dg hr12 d4 (b0 (pv 1) c9)))
   (c6 (i8 (pmr D.take T.cl hr7 d4 (pv 1) (b0 i9 c9)))
   (c6 (h9 (i:=3) aA8.nd rfl (Or.inl rfl) (d9 Dk hr8 d4 (b0 (pv 1) (b0 (pv 2) c9))))
   (c6 (i8 (pmr D.take T.cl hr7 d4 (pv 1) (b0 i9 c9)))
   (d5 (i4 (aB9 DS hr2 d4 (b0 (pv 3) (b0 (d9 Dp hr d4 (b0 (pv 1) (b0 (pv 2) c9))) c9)))))))))) ?_
  refine a0 _ rfl (fun r dx hrn hdn hne=>?_)
  have e0:Ext [] G H G (upd H dx (.own r)):=(Ext.refl sm).lend hdn
  have hr1:upd H dx (.own r) r=none:=by rw [d6 (fun z=>hne z.symm)];exact hrn
  have e1:=e0.lend hr1 (o:=.ins CR dx [])
  refine z7 G r dx a b rfl e1.sub ⟨c7,sm.free hrn⟩ ha (fun G2 H2 e2 hR2=>⟨rfl,?_⟩)
  have e02:Ext [r] G H G2 H2:=e1.up.trans e2
  have k0:PK CF be7 (fun s _=>∀ v G' H',Ext [] G H G' H'->aK1 K CS CE G' v s->Q v H') b 0 E:=by
   unfold PK
   unfold bM1 at kk
   have er:Ln.Text.read b=(be7 (Lx b 0)).map fun x=>x.1:=by
    unfold Ln.Text.read
    rw [bD0,Ma.aV5];rfl
   rw [er] at kk
   cases hx:be7 (Lx b 0) with
   | error e=>rw [hx] at kk;exact kk
   | ok x=>rw [hx] at kk;exact fun _ _=>kk
  refine a0 _ rfl ⟨System_,R3 G2 r b 0 (C6 _ _ rfl e2.sub hR2 k0 (fun d G3 H3 p3 kvs gl e3 hR3 o3 hg3 hok3 k3=>?_))⟩
  refine d8 r rfl (hR3.m m6) (z7 G3 r b p3 (.w "start") rfl e3.sub hR3 (by decide +kernel) (k3.take (by decide +kernel) fun v4 G4 H4 _ e4 hR4 _ k4=>?_))
  have ndr:d≠r:=hR3.nd o3
  have o4:=o3.ext e4 (by simpa using ndr)
  have hg4:=hg3.mono e4.grow
  refine a0 _ rfl (a0 _ rfl (Z0 G4 r b _ d kvs gl rfl e4.sub hR4 o4 hg4 (k4.call fun m v5 G5 H5 p5 hm5 e5 hR5 hv5 k5=>?_)))
  have o5:=o4.ext e5 (by simpa using ndr)
  refine d8 r rfl (hR5.m m6) (z7 G5 r b p5 (.m 59) rfl e5.sub hR5 (by decide +kernel) (k5.take (by decide +kernel) fun v6 G6 H6 _ e6 hR6 _ k6=>?_))
  have o6:=o5.ext e6 (by simpa using ndr)
  have e06:Ext [r] G H G6 H6:=(((e02.trans e3).trans e4).trans e5).trans e6
  refine a0 _ rfl (a0 _ rfl (a0 _ rfl (Z0 G6 r b _ d kvs gl rfl e6.sub hR6 o6 ((hg4.mono e5.grow).mono e6.grow) ?_)))
  unfold PK
  have hbr:=Ma.c8 (Ln.Text.elems gl FUEL []) (fun es=>(pure ⟨gl,m,es⟩:P System_)) (Lx b (l4 b p5+(g8 b p5).2))
  unfold PK at k6
  cases hx:Ln.Text.elems gl FUEL [] (Lx b (l4 b p5+(g8 b p5).2)) with
  | error e=>rw [hx] at hbr;rw [hbr] at k6;exact k6
  | ok x =>
   obtain ⟨es,l'⟩:=x
   rw [hx] at hbr
   rw [hbr] at k6
   intro p7 hl7 v7 G7 H7 e7 hR7 hpath hle7
   have e07:Ext [] G H G7 H7:=Ext.drop hrn (e06.trans e7)
   refine fun x dx' hx hdx hne'=>?_
   have eA:Ext [] G H G7 (upd H7 dx' (.own x)):=e07.lend hdx
   have hx1:upd H7 dx' (.own x) x=none:=by rw [d6 (fun z=>hne' z.symm)];exact hx
   refine l7 x dx' _ _ rfl c7 rfl ?_
   rw [A5]
   have eC:=eA.lay hx1 (o:=.ins CS dx' (sf v5 v7))
   have gC:j6 G7 (upd G7 x (.ins CS dx' (sf v5 v7))):=((Ext.refl (M:=[]) eA.sub).lay hx1 (o:=.ins CS dx' (sf v5 v7))).grow
   exact k6 p7 hl7 _ _ _ eC ⟨(l7 x dx' v5 v7 rfl c7 (hv5.mono ((e6.grow.trans e7.grow).trans gC)) (hpath.mono gC)),hok3,aG7 hm5,hle7⟩
end
end Th
set_option maxHeartbeats 2000000
namespace Th
open PySem PySem.Spec PyProof.Rows L2
open Ln (Bytes Glass Elem System_)
open Ma (P6 Stn A4)
def stf (a w b c d e f g:V):List (Str×V):=z9 "colour" g (z9 "conic" f (z9 "bend" e (z9 "square" d (z9 "behind" c (z9 "before" b (z9 "walk" w (z9 "stop" a [])))))))
structure ak6 (K:W.Frag)(CT:Addr)(G:Hp)(v:V)(t:Stn):Prop where
 ex:∃ x dx vw vb vh vs vd vc vl,v=.ref x/\G x=some (.ins CT dx (stf (.bl t.stop) vw vb vh vs vd vc vl))/\Fr K G vw t.walk/\Fr K G vb t.before/\Fr K G vh t.behind/\Fr K G vs t.square/\Fr K G vd t.bend/\Fr K G vc t.conic/\Fr K G vl t.colour
 ok:A4 t
theorem ak6.mono {K:W.Frag}{CT:Addr}{G G':Hp}{v:V}{t:Stn}(s:j6 G G')(h:ak6 K CT G v t):ak6 K CT G' v t:=by
 obtain ⟨⟨x,dx,vw,vb,vh,vs,vd,vc,vl,h1,h2,a1,a2,a3,a4,a5,a6,a7⟩,ok⟩:=h
 exact ⟨(m9 x dx vw vb vh (R3 vs vd vc vl ⟨h1,s _ _ h2,Fr.mono _ _ _ _ s a1,Fr.mono _ _ _ _ s a2,Fr.mono _ _ _ _ s a3,Fr.mono _ _ _ _ s a4,Fr.mono _ _ _ _ s a5,Fr.mono _ _ _ _ s a6,Fr.mono _ _ _ _ s a7⟩)),ok⟩
theorem ai6 {K:W.Frag}{G:Hp}{v:V}{l:List Rat}(h:Tri K G v l){j:Nat}{q:Rat}(hj:l[j]?=some q):∃ p xs u,v=.ref p/\SqT K G p xs/\atI xs (j:Int)=some u/\Fr K G u q:=by
 obtain ⟨p,xs,e,hs,hp⟩:=h
 have key:∀ {xs:List V}{l:List Rat},Paired (Fr K G) xs l->∀ {j:Nat}{q:Rat},l[j]?=some q->∃ u,xs[j]?=some u/\Fr K G u q:=by
  intro xs l hp
  induction hp with
  | nil=>intro j q h;cases h
  | @cons a b xs l h t ih =>
   intro j q hj
   cases j with
   | zero=>cases hj;exact a0 a rfl h
   | succ j=>exact ih (j:=j) hj
 obtain ⟨u,hu,hf⟩:=key hp hj
 exact j4 p xs u e hs (ai2 hu) hf
structure Tt (K:W.Frag)(CT:Addr):Prop where
 cl:Cls K CT
 n1:l8 K CT "stop"
 n2:l8 K CT "walk"
 n3:l8 K CT "before"
 n4:l8 K CT "behind"
 n5:l8 K CT "square"
 n6:l8 K CT "bend"
 n7:l8 K CT "conic"
 n8:l8 K CT "colour"
section
variable {w:World}{K:W.Frag}{mg:Str->Option Value}{base:Heap}{CE CS CT:Addr}
def bN4 (K:W.Frag)(CT:Addr):Sp:=fun vs H Q _=>∃ (x dx:Addr) (a1 a2:V),vs=[.ref x,a1,a2]/\H x=some (.ins CT dx [])/\∀ z,(∀ G,Fr K G z 0)->Q .non (upd H x (.ins CT dx (stf a1 a2 z z z z z z)))
theorem bO2:g9 ["self","stop","walk"] ["self","stop","walk"] (d7 O3):=⟨rfl,rfl,rfl,by decide +kernel,rfl,by decide +kernel,by decide +kernel⟩
theorem bP5 {f:Addr}{fd:FuncData}(F:Fun K "__init__" "Station.__init__" O3 f fd)(T:Tt K CT)(Z:Tq K mg):l6 prog w K mg base (cxX prog w) 1 f fd ["self","stop","walk"] (bN4 K CT):=by
 refine F.okX bO2 (fun vs H Q E h=>?_) (fun cdv A outer s H vs Q E hr h=>?_)
 ·obtain ⟨x,dx,a1,a2,rfl,_⟩:=h;rfl
 ·obtain ⟨x,dx,a1,a2,rfl,hx,k⟩:=h
  obtain ⟨aZ,mZ,hZ⟩:=Z.zero_
  refine a0 _ (c6 (A0 (pv 0) (pv 1) rfl) (c6 (A0 (pv 0) (pv 2) rfl) (c6 (A0 (pv 0) (A6 (v:=.ref aZ) (by rfl) mZ rfl) rfl) (c6 (A0 (pv 0) (A6 (v:=.ref aZ) (by rfl) mZ rfl) rfl) (c6 (A0 (pv 0) (A6 (v:=.ref aZ) (by rfl) mZ rfl) rfl) (c6 (A0 (pv 0) (A6 (v:=.ref aZ) (by rfl) mZ rfl) rfl) (c6 (A0 (pv 0) (A6 (v:=.ref aZ) (by rfl) mZ rfl) rfl) (d5 (A0 (pv 0) (A6 (v:=.ref aZ) (by rfl) mZ rfl) rfl))))))))) ?_
  refine a0 _ rfl (a0 _ rfl (l0 x CT dx _ rfl hx T.cl T.n1 (by show 0 < 1000;decide) ?_))
  refine a0 _ rfl (a0 _ rfl (l0 x CT dx _ rfl c7 T.cl T.n2 (by show 1 < 1000;decide) ?_))
  rw [A5]
  refine a0 _ rfl (l0 x CT dx _ rfl c7 T.cl T.n3 (by show 2 < 1000;decide) ?_)
  rw [A5]
  refine a0 _ rfl (l0 x CT dx _ rfl c7 T.cl T.n4 (by show 3 < 1000;decide) ?_)
  rw [A5]
  refine a0 _ rfl (l0 x CT dx _ rfl c7 T.cl T.n5 (by show 4 < 1000;decide) ?_)
  rw [A5]
  refine a0 _ rfl (l0 x CT dx _ rfl c7 T.cl T.n6 (by show 5 < 1000;decide) ?_)
  rw [A5]
  refine a0 _ rfl (l0 x CT dx _ rfl c7 T.cl T.n7 (by show 6 < 1000;decide) ?_)
  rw [A5]
  refine a0 _ rfl (l0 x CT dx _ rfl c7 T.cl T.n8 (by show 7 < 1000;decide) ?_)
  rw [A5]
  exact k (.ref aZ) fun G=>(a0 aZ rfl (hZ _))
def bz1 (l:List Rat):Prop:=l.length=3/\∀ q∈l,1<=q/\Ma.Sz 60 q
theorem bz1.get {l:List Rat}(h:bz1 l){j:Nat}(hj:j < 3):l[j]?=some (l.getD j 1)/\1<=l.getD j 1/\Ma.Sz 60 (l.getD j 1)/\l.getD j 1≠0:=by
 have hlt:j < l.length:=by rw [h.1];exact hj
 have e:l[j]?=some (l.getD j 1):=by rw [List.getD_eq_getElem?_getD,List.getElem?_eq_getElem hlt];rfl
 have m:=h.2 _ (List.mem_of_getElem? e)
 refine ⟨e,m.1,m.2,fun z=>?_⟩
 rw [z] at m
 exact absurd m.1 (by decide)
def aE8 (K:W.Frag):Sp:=fun vs H Q _=>∃ (G:Hp) (a:V) (l:List Rat) (line:Nat),vs=[a,.int (line:Int)]/\j6 G H/\Tri K G a l/\bz1 l/\line < 3/\∀ v G' H',Ext [] G H G' H'->Fr K G' v ((l.getD 1 1 - l.getD 2 1) / l.getD line 1)->Q v H'
theorem bD5:g9 ["medium","line"] ["medium","line"] (d7 aq2):=⟨rfl,rfl,rfl,by decide +kernel,rfl,by decide +kernel,by decide +kernel⟩
theorem bG5 {f:Addr}{fd:FuncData}(F:Fun K "spread" "spread" aq2 f fd)(Do:Def prog w K mg base 3 "over" ["x","y"] (sp2 K bp1 fun p q=>p / q))(Dm:Def prog w K mg base 4 "minus" ["x","y"] (sp2 K aE1 fun p q=>p - q)):l6 prog w K mg base (cxX prog w) 5 f fd ["medium","line"] (aE8 K):=by
 refine F.okX bD5 (fun vs H Q E h=>?_) (fun cdv A outer s H vs Q E hr h=>?_)
 ·obtain ⟨G,a,l,line,rfl,_⟩:=h;rfl
 ·obtain ⟨G,a,l,line,rfl,sm,ha,h3,hl,k⟩:=h
  have hr3:=hr.mono (show 3<=4 by decide)
  refine a0 _ (d5 (i4 (d9 Do hr3 d4 (b0 (d9 Dm hr d4 (b0 (px 0 (pv 0)) (b0 (px 0 (pv 0)) c9))) (b0 (m7 o8 (pv 0) (pv 1) (fun _ _=>rfl)) c9))))) ?_
  obtain ⟨g1,_,s1,_⟩:=h3.get (j:=1) (by decide)
  obtain ⟨g2,_,s2,_⟩:=h3.get (j:=2) (by decide)
  obtain ⟨g3,_,s3,n3⟩:=h3.get hl
  obtain ⟨p,xs,u1,rfl,q1,a1,f1⟩:=ai6 ha g1
  obtain ⟨p',xs',u2,e2,q2,a2,f2⟩:=ai6 ha g2
  cases e2
  obtain ⟨p',xs3,u3,e3,q3,a3,f3⟩:=ai6 ha g3
  cases e3
  refine j4 p _ _ rfl (sm.seqT q1) a1 (j4 p _ _ rfl (sm.seqT q2) a2 (j1 G _ _ _ _ rfl sm f1 f2 ⟨s1.mono (by decide),s2.mono (by decide)⟩ (fun v G1 H1 e1 hv=>?_)))
  refine a0 _ rfl (a0 _ rfl (j0 p _ _ _ rfl rfl (e1.sub.seqT (e1.grow.seqT q3)) a3 (j1 G1 _ _ _ _ rfl e1.sub hv (Fr.mono _ _ _ _ e1.grow f3) ⟨(s1.sub s2).mono (by decide),s3.mono (by decide),n3⟩ (fun v2 G2 H2 e2 h2=>k v2 G2 H2 (e1.trans e2) h2))))
theorem bD4:g9 ["x"] ["x"] (d7 aj6):=⟨rfl,rfl,rfl,by decide +kernel,rfl,by decide +kernel,by decide +kernel⟩
theorem bG4 {f:Addr}{fd:FuncData}(F:Fun K "squared" "squared" aj6 f fd)(Dt:Def prog w K mg base 3 "times" ["x","y"] (sp2 K aE1 fun p q=>p*q)):l6 prog w K mg base (cxX prog w) 4 f fd ["x"] (sp1 K Szb fun p=>p*p):=by
 refine F.okX bD4 (fun vs H Q E h=>?_) (fun cdv A outer s H vs Q E hr h=>?_)
 ·obtain ⟨G,a,p,rfl,_⟩:=h;rfl
 ·obtain ⟨G,a,p,rfl,sm,ha,hs,k⟩:=h
  refine a0 _ (d5 (i4 (d9 Dt hr d4 (b0 (pv 0) (b0 (pv 0) c9))))) ?_
  exact a0 _ rfl (a0 _ rfl (j1 G _ _ p p rfl sm ha ha ⟨hs,hs⟩ k))
end
end Th
set_option maxHeartbeats 2000000
namespace Th
open PySem PySem.Spec PyProof.Rows L2
open Ln (Bytes Glass Elem System_)
open Ma (P6 Stn A4 Sz)
theorem aL3 (a w b c d e f g v:V):z9 "before" v (stf a w b c d e f g)=stf a w v c d e f g:=rfl
theorem aL2 (a w b c d e f g v:V):z9 "behind" v (stf a w b c d e f g)=stf a w b v d e f g:=rfl
theorem aL0 (a w b c d e f g v:V):z9 "square" v (stf a w b c d e f g)=stf a w b c v e f g:=rfl
theorem bf1 (a w b c d e f g v:V):z9 "bend" v (stf a w b c d e f g)=stf a w b c d v f g:=rfl
theorem aW1 (a w b c d e f g v:V):z9 "conic" v (stf a w b c d e f g)=stf a w b c d e v g:=rfl
theorem aL1 (a w b c d e f g v:V):z9 "colour" v (stf a w b c d e f g)=stf a w b c d e f v:=rfl
theorem ah3 (a b c d e:V):(ef a b c d e).lookup ("word" : Str)=some a:=rfl
theorem bL1 (a b c d e:V):(ef a b c d e).lookup ("gap" : Str)=some b:=rfl
theorem ah4 (a b c d e:V):(ef a b c d e).lookup ("glass" : Str)=some c:=rfl
theorem bn5 (a b c d e:V):(ef a b c d e).lookup ("curve" : Str)=some d:=rfl
theorem bn6 (a b c d e:V):(ef a b c d e).lookup ("conic" : Str)=some e:=rfl
section
variable {w:World}{K:W.Frag}{mg:Str->Option Value}{base:Heap}{CE CS CT:Addr}
structure bp2 (w:World)(K:W.Frag)(mg:Str->Option Value)(base:Heap):Prop where
 neg:Def prog w K mg base 1 "negative" ["x"] (sp1 K (fun _=>True) fun p=>-p)
 plus:Def prog w K mg base 3 "plus" ["x","y"] (sp2 K aE1 fun p q=>p+q)
 minus:Def prog w K mg base 4 "minus" ["x","y"] (sp2 K aE1 fun p q=>p - q)
 times:Def prog w K mg base 3 "times" ["x","y"] (sp2 K aE1 fun p q=>p*q)
 over:Def prog w K mg base 3 "over" ["x","y"] (sp2 K bp1 fun p q=>p / q)
def aQ4 (K:W.Frag)(CE CT:Addr):Sp:=fun vs H Q _=>∃ (G:Hp) (x dx:Addr) (ve vn vm:V) (a1 a2 a3 a4 a5 a6 a7 a8:V) (el:Elem) (gl:List Glass) (n m:Rat),vs=[.ref x,ve,vn,vm]/\j6 G H/\Own G H x (.ins CT dx (stf a1 a2 a3 a4 a5 a6 a7 a8))/\an1 K CE G ve el gl/\Fr K G vn n/\Fr K G vm m/\Sz 60 n/\Sz 60 m/\n≠0/\m≠0 /\
 ∀ G' H' vb vh vs vd vc,Ext [x] G H G' H'->Own G' H' x (.ins CT dx (stf a1 a2 vb vh vs vd vc a8))->Fr K G' vb (n*el.curve)->Fr K G' vh (m*el.curve)->Fr K G' vs (1 / (m*m) - 1 / (n*n))->Fr K G' vd (el.curve*(1 / m - 1 / n))->Fr K G' vc (el.conic*(el.curve*(el.curve*el.curve))*(m - n))->Q .non H'
theorem bg4:g9 ["station","element","n","m","curve"] ["station","element","n","m"] (d7 M1):=⟨rfl,rfl,rfl,by decide +kernel,rfl,by decide +kernel,by decide +kernel⟩
theorem bG8 {f:Addr}{fd:FuncData}(F:Fun K "shape_station" "shape_station" M1 f fd)(T:Tt K CT)(TE:Te K CE)(Z:Tq K mg)(D:bp2 w K mg base)(Ds:Def prog w K mg base 4 "squared" ["x"] (sp1 K Szb fun p=>p*p)):l6 prog w K mg base (cxX prog w) 5 f fd ["station","element","n","m"] (aQ4 K CE CT):=by
 refine F.okX bg4 (fun vs H Q E h=>?_) (fun cdv A outer s H vs Q E hr h=>?_)
 ·obtain ⟨G,x,dx,ve,vn,vm,a1,a2,a3,a4,a5,a6,a7,a8,el,gl,n,m,rfl,_⟩:=h;rfl
 ·obtain ⟨G,x,dx,ve,vn,vm,a1,a2,a3,a4,a5,a6,a7,a8,el,gl,n,m,rfl,sm,ho,hel,hn,hm,sn,sm',n0,m0,k⟩:=h
  have hr3:=hr.mono (show 3<=4 by decide)
  obtain ⟨aO,mO,hO⟩:=Z.one_
  have one:∀ G,Fr K G (.ref aO) 1:=fun G=>(a0 aO rfl (hO _))
  obtain ⟨⟨xe,dxe,vg,vl,vc,vk,rfl,hxe,_,hc,hk,_⟩,_,sc,sk⟩:=hel
  refine a0 _ (c6 (h9 (i:=4) bg4.nd rfl (Or.inl rfl) (l9 (pv 1) rfl))
   (c6 (A0 (pv 0) (d9 D.times hr3 d4 (b0 (pv 2) (b0 (pv 4) c9))) rfl)
   (c6 (A0 (pv 0) (d9 D.times hr3 d4 (b0 (pv 3) (b0 (pv 4) c9))) rfl)
   (c6 (A0 (pv 0) (d9 D.minus hr d4 (b0 (d9 D.over hr3 d4 (b0 (A6 (v:=.ref aO) (by rfl) mO rfl) (b0 (d9 Ds hr d4 (b0 (pv 3) c9)) c9))) (b0 (d9 D.over hr3 d4 (b0 (A6 (v:=.ref aO) (by rfl) mO rfl) (b0 (d9 Ds hr d4 (b0 (pv 2) c9)) c9))) c9))) rfl)
   (c6 (A0 (pv 0) (d9 D.times hr3 d4 (b0 (pv 4) (b0 (d9 D.minus hr d4 (b0 (d9 D.over hr3 d4 (b0 (A6 (v:=.ref aO) (by rfl) mO rfl) (b0 (pv 3) c9))) (b0 (d9 D.over hr3 d4 (b0 (A6 (v:=.ref aO) (by rfl) mO rfl) (b0 (pv 2) c9))) c9))) c9))) rfl)
   (d5 (A0 (pv 0) (d9 D.times hr3 d4 (b0 (d9 D.times hr3 d4 (b0 (l9 (pv 1) rfl) (b0 (d9 D.times hr3 d4 (b0 (pv 4) (b0 (d9 Ds hr d4 (b0 (pv 4) c9)) c9))) c9))) (b0 (d9 D.minus hr d4 (b0 (pv 3) (b0 (pv 2) c9))) c9))) rfl))))))) ?_
  have big:∀ {j:Nat}{q:Rat},Sz j q->j<=30000000->Szb q:=fun h le=>h.mono le
  have hmm:m*m≠0:=Ma.P0 m0 m0
  have hnn:n*n≠0:=Ma.P0 n0 n0
  refine a0 _ rfl (j1 xe CE dxe _ _ rfl (sm _ _ hxe) TE.cl TE.n4 (bn5 _ _ _ _ _) ?_)
  refine a0 _ rfl (a0 _ rfl (j1 G _ _ n el.curve rfl sm hn hc ⟨big sn (by decide),big sc (by decide)⟩ (fun vb G1 H1 e1 f1=>?_)))
  have o1:=ho.ext e1 (by simp)
  refine a0 _ rfl (l0 x CT dx _ rfl o1.at_ T.cl T.n3 (by show 8 < 1000;decide) ?_)
  rw [aL3]
  have E1:Ext [x] G H G1 (upd H1 x (.ins CT dx (stf a1 a2 vb a4 a5 a6 a7 a8))):=e1.up.put (.inr (by simp)) o1.fr
  have p1:Own G1 (upd H1 x (.ins CT dx (stf a1 a2 vb a4 a5 a6 a7 a8))) x (.ins CT dx (stf a1 a2 vb a4 a5 a6 a7 a8)):=⟨c7,o1.fr⟩
  generalize upd H1 x (.ins CT dx (stf a1 a2 vb a4 a5 a6 a7 a8))=J1 at E1 p1
  refine a0 _ rfl (a0 _ rfl (j1 G1 _ _ m el.curve rfl E1.sub (Fr.mono _ _ _ _ E1.grow hm) (Fr.mono _ _ _ _ E1.grow hc) ⟨big sm' (by decide),big sc (by decide)⟩ (fun vh G2 H2 e2 f2=>?_)))
  have o2:=p1.ext e2 (by simp)
  refine a0 _ rfl (l0 x CT dx _ rfl o2.at_ T.cl T.n4 (by show 8 < 1000;decide) ?_)
  rw [aL2]
  have E2:Ext [x] G H G2 (upd H2 x (.ins CT dx (stf a1 a2 vb vh a5 a6 a7 a8))):=(E1.tr0 e2).put (.inr (by simp)) o2.fr
  have p2:Own G2 (upd H2 x (.ins CT dx (stf a1 a2 vb vh a5 a6 a7 a8))) x (.ins CT dx (stf a1 a2 vb vh a5 a6 a7 a8)):=⟨c7,o2.fr⟩
  generalize upd H2 x (.ins CT dx (stf a1 a2 vb vh a5 a6 a7 a8))=J2 at E2 p2
  refine a0 _ rfl (u0 G2 _ m rfl E2.sub (Fr.mono _ _ _ _ E2.grow hm) (big sm' (by decide)) (fun v3 G3 H3 e3 f3=>?_))
  refine j1 G3 _ _ 1 (m*m) rfl e3.sub (one _) f3 ⟨big sz1 (by decide),big (sm'.mul sm') (by decide),hmm⟩ (fun v4 G4 H4 e4 f4=>?_)
  refine a0 _ rfl (u0 G4 _ n rfl e4.sub (Fr.mono _ _ _ _ ((E2.grow.trans e3.grow).trans e4.grow) hn) (big sn (by decide)) (fun v5 G5 H5 e5 f5=>?_))
  refine j1 G5 _ _ 1 (n*n) rfl e5.sub (one _) f5 ⟨big sz1 (by decide),big (sn.mul sn) (by decide),hnn⟩ (fun v6 G6 H6 e6 f6=>?_)
  refine j1 G6 _ _ (1 / (m*m)) (1 / (n*n)) rfl e6.sub (Fr.mono _ _ _ _ (e5.grow.trans e6.grow) f4) f6 ⟨big (N5 (sm'.mul sm') hmm) (by decide),big (N5 (sn.mul sn) hnn) (by decide)⟩ (fun vs7 G7 H7 e7 f7=>?_)
  have e27:Ext [] G2 J2 G7 H7:=(((e3.trans e4).trans e5).trans e6).trans e7
  have o7:=p2.ext e27 (by simp)
  refine a0 _ rfl (l0 x CT dx _ rfl o7.at_ T.cl T.n5 (by show 8 < 1000;decide) ?_)
  rw [aL0]
  have E7:Ext [x] G H G7 (upd H7 x (.ins CT dx (stf a1 a2 vb vh vs7 a6 a7 a8))):=(E2.tr0 e27).put (.inr (by simp)) o7.fr
  have p7:Own G7 (upd H7 x (.ins CT dx (stf a1 a2 vb vh vs7 a6 a7 a8))) x (.ins CT dx (stf a1 a2 vb vh vs7 a6 a7 a8)):=⟨c7,o7.fr⟩
  generalize upd H7 x (.ins CT dx (stf a1 a2 vb vh vs7 a6 a7 a8))=J7 at E7 p7
  refine a0 _ rfl (a0 _ rfl (j1 G7 _ _ 1 m rfl E7.sub (one _) (Fr.mono _ _ _ _ E7.grow hm) ⟨big sz1 (by decide),big sm' (by decide),m0⟩ (fun v8 G8 H8 e8 f8=>?_)))
  refine a0 _ rfl (j1 G8 _ _ 1 n rfl e8.sub (one _) (Fr.mono _ _ _ _ (E7.grow.trans e8.grow) hn) ⟨big sz1 (by decide),big sn (by decide),n0⟩ (fun v9 G9 H9 e9 f9=>?_))
  refine j1 G9 _ _ (1 / m) (1 / n) rfl e9.sub (Fr.mono _ _ _ _ e9.grow f8) f9 ⟨big (N5 sm' m0) (by decide),big (N5 sn n0) (by decide)⟩ (fun v10 G10 H10 e10 f10=>?_)
  have e710:Ext [] G7 J7 G10 H10:=(e8.trans e9).trans e10
  refine j1 G10 _ _ el.curve (1 / m - 1 / n) rfl e10.sub (Fr.mono _ _ _ _ (E7.grow.trans e710.grow) hc) f10 ⟨big sc (by decide),big ((N5 sm' m0).sub (N5 sn n0)) (by decide)⟩ (fun vd G11 H11 e11 f11=>?_)
  have e711:Ext [] G7 J7 G11 H11:=e710.trans e11
  have o11:=p7.ext e711 (by simp)
  refine a0 _ rfl (l0 x CT dx _ rfl o11.at_ T.cl T.n6 (by show 8 < 1000;decide) ?_)
  rw [bf1]
  have E11:Ext [x] G H G11 (upd H11 x (.ins CT dx (stf a1 a2 vb vh vs7 vd a7 a8))):=(E7.tr0 e711).put (.inr (by simp)) o11.fr
  have p11:Own G11 (upd H11 x (.ins CT dx (stf a1 a2 vb vh vs7 vd a7 a8))) x (.ins CT dx (stf a1 a2 vb vh vs7 vd a7 a8)):=⟨c7,o11.fr⟩
  generalize upd H11 x (.ins CT dx (stf a1 a2 vb vh vs7 vd a7 a8))=J11 at E11 p11
  refine a0 _ rfl (j1 xe CE dxe _ _ rfl (E11.sub _ _ (E11.grow _ _ hxe)) TE.cl TE.n5 (bn6 _ _ _ _ _) ?_)
  refine a0 _ rfl (a0 _ rfl (u0 G11 _ el.curve rfl E11.sub (Fr.mono _ _ _ _ E11.grow hc) (big sc (by decide)) (fun v12 G12 H12 e12 f12=>?_)))
  refine j1 G12 _ _ el.curve (el.curve*el.curve) rfl e12.sub (Fr.mono _ _ _ _ (E11.grow.trans e12.grow) hc) f12 ⟨big sc (by decide),big (sc.mul sc) (by decide)⟩ (fun v13 G13 H13 e13 f13=>?_)
  refine j1 G13 _ _ el.conic (el.curve*(el.curve*el.curve)) rfl e13.sub (Fr.mono _ _ _ _ ((E11.grow.trans e12.grow).trans e13.grow) hk) f13 ⟨big sk (by decide),big (sc.mul (sc.mul sc)) (by decide)⟩ (fun v14 G14 H14 e14 f14=>?_)
  have e1114:Ext [] G11 J11 G14 H14:=(e12.trans e13).trans e14
  refine a0 _ rfl (a0 _ rfl (j1 G14 _ _ m n rfl e14.sub (Fr.mono _ _ _ _ (E11.grow.trans e1114.grow) hm) (Fr.mono _ _ _ _ (E11.grow.trans e1114.grow) hn) ⟨big sm' (by decide),big sn (by decide)⟩ (fun v15 G15 H15 e15 f15=>?_)))
  refine j1 G15 _ _ (el.conic*(el.curve*(el.curve*el.curve))) (m - n) rfl e15.sub (Fr.mono _ _ _ _ e15.grow f14) f15 ⟨big (sk.mul (sc.mul (sc.mul sc))) (by decide),big (sm'.sub sn) (by decide)⟩ (fun vc16 G16 H16 e16 f16=>?_)
  have e1116:Ext [] G11 J11 G16 H16:=(e1114.trans e15).trans e16
  have o16:=p11.ext e1116 (by simp)
  refine a0 _ rfl (l0 x CT dx _ rfl o16.at_ T.cl T.n7 (by show 8 < 1000;decide) ?_)
  rw [aW1]
  have E16:Ext [x] G H G16 (upd H16 x (.ins CT dx (stf a1 a2 vb vh vs7 vd vc16 a8))):=(E11.tr0 e1116).put (.inr (by simp)) o16.fr
  refine k _ _ _ _ _ _ _ E16 ⟨c7,o16.fr⟩ ?_ ?_ ?_ ?_ f16
  ·exact Fr.mono _ _ _ _ (((e2.grow.trans e27.grow).trans e711.grow).trans e1116.grow) f1
  ·exact Fr.mono _ _ _ _ ((e27.grow.trans e711.grow).trans e1116.grow) f2
  ·exact Fr.mono _ _ _ _ (e711.grow.trans e1116.grow) f7
  ·exact Fr.mono _ _ _ _ e1116.grow f11
end
end Th
set_option maxHeartbeats 4000000
namespace Th
open PySem PySem.Spec PyProof.Rows L2
open Ln (Bytes Glass Elem System_)
open Ma (P6 Stn A4 Sz)
structure V2 (s:System_):Prop where
 gl:P6 s.glasses
 st:s.start < s.glasses.length
 el:∀ i m,(s.elem i).kind=.surface m->m < s.glasses.length
 sz:∀ i,Sz 60 (s.elem i).gap/\Sz 60 (s.elem i).curve/\Sz 60 (s.elem i).conic
theorem V2.med {s:System_}(h:V2 s):∀ i,s.medium i < s.glasses.length
 | 0=>h.st
 | i+1=>by
  rw [Ma.al8]
  cases hk:(s.elem i).kind with
  | surface m=>exact h.el i m hk
  | mirror=>exact h.med i
  | halt_=>exact h.med i
theorem V2.tri {s:System_}(h:V2 s){g:Nat}(hg:g < s.glasses.length):bz1 (Ma.triple s g):=by
 rcases Ma.ao8 h.gl g with z | z
 ·exfalso
  have:(s.glasses.map fun (x:Glass)=>x.index)[g]?=some (s.glasses[g]).index:=by rw [List.getElem?_map,List.getElem?_eq_getElem hg];rfl
  have e:Ma.triple s g=(s.glasses[g]).index:=by
   unfold Ma.triple
   rw [List.getD_eq_getElem?_getD,this];rfl
  have:=(h.gl _ (List.getElem_mem hg)).1
  rw [<-e,z] at this
  cases this
 ·exact z
def gi (s:System_)(line i:Nat):Rat:=(Ma.triple s (s.medium i)).getD line 1
theorem bm9 (s:System_)(line i:Nat):s.glassIndex (s.medium i) line=gi s line i:=rfl
theorem V2.gi {s:System_}(h:V2 s){line:Nat}(hl:line < 3)(i:Nat):Sz 60 (gi s line i)/\gi s line i≠0:=by
 have:=(h.tri (h.med i)).get hl
 exact ⟨this.2.2.1,this.2.2.2⟩
theorem V2.ix {s:System_}(h:V2 s){line:Nat}(hl:line < 3)(i:Nat):Sz 60 (s.index line i)/\s.index line i≠0:=by
 obtain ⟨h1,h2⟩:=h.gi hl i
 refine ⟨?_,Ma.aI7 h.gl line i⟩
 rw [Ma.ae7,bm9]
 split
 ·exact h1.neg
 ·exact h1
theorem V2.spr {s:System_}(h:V2 s){line:Nat}(hl:line < 3)(i:Nat):Sz 181 (Ln.spreads s line i):=by
 rw [Ma.F6 s line i (h.gi hl i).2]
 exact (((h.gi (line:=1) (by decide) i).1.sub (h.gi (line:=2) (by decide) i).1).quo (h.gi hl i).1 (h.gi hl i).2).mono (by decide)
theorem V2.stn {s:System_}(h:V2 s){line:Nat}(hl:line < 3)(i:Nat):A4 (Ma.y3 s line i):=by
 obtain ⟨sg,sc,sk⟩:=h.sz i
 obtain ⟨n1,n2⟩:=h.ix hl i
 obtain ⟨m1,m2⟩:=h.ix hl (i+1)
 have hw:Sz 130 (s.gap i / s.index line i):=by
  rw [Ma.aP8 s line i (h.gi hl i).2]
  exact (sg.quo (h.gi hl i).1 (h.gi hl i).2).mono (by decide)
 have z:Sz 130 0:=sz0.mono (by decide)
 have z4:Sz 400 0:=sz0.mono (by decide)
 have full:A4 ⟨false,s.gap i / s.index line i,s.index line i*(s.elem i).curve,s.index line (i+1)*(s.elem i).curve,1 / (s.index line (i+1)*s.index line (i+1)) - 1 / (s.index line i*s.index line i),(s.elem i).curve*(1 / s.index line (i+1) - 1 / s.index line i),(s.elem i).conic*((s.elem i).curve*((s.elem i).curve*(s.elem i).curve))*(s.index line (i+1) - s.index line i),Ln.spreads s line (i+1) - Ln.spreads s line i⟩ :=
  ⟨hw,(n1.mul sc).mono (by decide),(m1.mul sc).mono (by decide),((N5 (m1.mul m1) (Ma.P0 m2 m2)).sub (N5 (n1.mul n1) (Ma.P0 n2 n2))).mono (by decide),(sc.mul ((N5 m1 m2).sub (N5 n1 n2))).mono (by decide),((sk.mul (sc.mul (sc.mul sc))).mul (m1.sub n1)).mono (by decide),((h.spr hl (i+1)).sub (h.spr hl i)).mono (by decide)⟩
 unfold Ma.y3
 cases (s.elem i).kind with
 | halt_=>exact ⟨hw,z,z,z4,z4,z4,z4⟩
 | mirror=>exact full
 | surface m=>exact full
theorem aD3 {s:System_}{i:Nat}{e:Elem}(h:s.elems[i]?=some e):s.elem i=e:=by
 unfold System_.elem
 rw [List.getD_eq_getElem?_getD,h];rfl
section
variable {w:World}{K:W.Frag}{mg:Str->Option Value}{base:Heap}{CE CS CT:Addr}
theorem D6 {α β:Type}{R:α->β->Prop}{xs:List α}{ys:List β}(h:Paired R xs ys):∀ {i:Nat}{x:α},xs[i]?=some x->∃ y,ys[i]?=some y/\R x y:=by
 induction h with
 | nil=>intro i x e;cases e
 | @cons a b l m h t ih =>
  intro i x e
  cases i with
  | zero=>cases e;exact a0 b rfl h
  | succ i=>exact ih (i:=i) e
theorem aJ5 {s:System_}{i:Nat}(h:s.elems[i]?=none):s.elem i=Ln.noElem:=by
 unfold System_.elem
 rw [List.getD_eq_getElem?_getD,h];rfl
theorem aK1.sok {G:Hp}{v:V}{s:System_}(h:aK1 K CS CE G v s):V2 s:=by
 obtain ⟨⟨x,dx,vm,vp,_,_,_,L,vs,_,_,hp⟩,ok,st,le⟩:=h
 have key:∀ (i:Nat) (e:Elem),s.elems[i]?=some e->∃ v,an1 K CE G v e s.glasses:=by
  intro i e he
  have:∀ {xs:List V}{ys:List Elem},Paired (fun v e=>an1 K CE G v e s.glasses) xs ys->∀ {i:Nat}{y:Elem},ys[i]?=some y->∃ v,an1 K CE G v y s.glasses:=by
   intro xs ys hp
   induction hp with
   | nil=>intro i y e;cases e
   | @cons a b l m h t ih =>
    intro i y e
    cases i with
    | zero=>cases e;exact j7 a h
    | succ i=>exact ih (i:=i) e
  exact this hp he
 refine ⟨ok,st,fun i m hk=>?_,fun i=>?_⟩
 ·cases he:s.elems[i]? with
  | none=>rw [aJ5 he] at hk;cases hk
  | some e =>
   obtain ⟨v,⟨_,_,_,_,_,_,_,_,_,_,_,h6⟩,_,_,_⟩:=key i e he
   rw [aD3 he] at hk
   rw [hk] at h6
   exact h6.2
 ·cases he:s.elems[i]? with
  | none=>rw [aJ5 he];exact ⟨sz0,sz0,sz0⟩
  | some e =>
   obtain ⟨v,_,h1,h2,h3⟩:=key i e he
   rw [aD3 he]
   exact ⟨h1,h2,h3⟩
def aK2 (K:W.Frag)(CT:Addr)(G:Hp)(v:V)(ts:List Stn):Prop:=∃ L vs,v=.ref L/\G L=some (.lst vs)/\Paired (ak6 K CT G) vs ts
def ap5 (K:W.Frag)(CS CE CT:Addr):Sp:=fun vs H Q _=>∃ (G:Hp) (a:V) (s:System_) (line:Nat),vs=[a,.int (line:Int)]/\j6 G H/\aK1 K CS CE G a s/\line < 3/\∀ v G' H',Ext [] G H G' H'->aK2 K CT G' v (Ma.ac9 s line)->Q v H'
theorem R4:g9 ["system","line","stations","medium","back","element","n","station","m"] ["system","line"] (d7 R6):=⟨rfl,rfl,rfl,by decide +kernel,rfl,by decide +kernel,by decide +kernel⟩
theorem aW0 (s:System_)(line i:Nat):(Ma.j9 s line 0 (i+1))=Ma.j9 s line 0 i++[Ma.y3 s line i]:=by
 unfold Ma.j9
 rw [List.range'_1_concat,List.map_append,Nat.zero_add];rfl
theorem aW5 (m p:V):(sf m p).lookup ("medium" : Str)=some m:=rfl
theorem bq8 (m p:V):(sf m p).lookup ("path" : Str)=some p:=rfl
theorem ne_str {a b:Str}(h:a≠b):decide (V.str a=V.str b)=false:=decide_eq_false fun z=>h (V.str.inj z)
theorem bC1 (k:Ln.Kind):decide (V.str (az2 k)=V.str "stop")=decide (k=.halt_):=by
 cases k with
 | surface m=>rw [decide_eq_false (fun z:Ln.Kind.surface m=.halt_=>nomatch z)];exact ne_str bA7
 | mirror=>exact ne_str bB0
 | halt_=>rfl
theorem bQ8:("stop" : Str)≠"mirror":=by decide +kernel
theorem bQ7:("surface" : Str)≠"mirror":=by decide +kernel
theorem Fr.m {G G':Hp}{v:V}{q:Rat}(s:j6 G G')(h:Fr K G v q):Fr K G' v q:=L2.Fr.mono _ _ _ _ s h
theorem bG3 {f:Addr}{fd:FuncData}(F:Fun K "stations_of" "stations_of" R6 f fd)(T:Tt K CT)(TE:Te K CE)(TS:Ts K CS)(D:bp2 w K mg base)(DT:Mdl prog w K mg base 1 CT "Station" ["self","stop","walk"] (bN4 K CT))(Dh:Def prog w K mg base 5 "shape_station" ["station","element","n","m"] (aQ4 K CE CT))(Dp:Def prog w K mg base 5 "spread" ["medium","line"] (aE8 K)) :
  l6 prog w K mg base (cxX prog w) 6 f fd ["system","line"] (ap5 K CS CE CT):=by
 refine F.okX R4 (fun vs H Q E h=>?_) (fun cdv A outer s H vs Q E hr h=>?_)
 ·obtain ⟨G,a,s,line,rfl,_⟩:=h;rfl
 ·obtain ⟨G,a,y,line,rfl,sm,hsys,hl,k⟩:=h
  have hr1:=hr.mono (show 1<=5 by decide)
  have hr2:=hr.mono (show 2<=5 by decide)
  have hr3:=hr.mono (show 3<=5 by decide)
  have hr4:=hr.mono (show 4<=5 by decide)
  have ok:=hsys.sok
  have hcnt:y.count<=64:=hsys.le
  obtain ⟨⟨xS,dxS,vm,vp,rfl,hxS,htri,LP,ps,rfl,hLP,hpair⟩,_,_,_⟩:=hsys
  refine a0 _ (c6 (h9 (i:=2) R4.nd rfl (Or.inl rfl) (B2 c9)) (c6 (h9 (i:=3) R4.nd rfl (Or.inl rfl) (l9 (pv 0) rfl)) (c6 (h9 (i:=4) R4.nd rfl (Or.inl rfl) aG2)
   (c6 (O8 C9 rfl (L4 (l9 (pv 0) rfl)) (B6 (i:=5) R4.nd rfl (Or.inl rfl))
    (M6 (h9 (i:=6) R4.nd rfl (Or.inl rfl) (aG0 (B7 (pv 4)) (d9 D.neg hr1 d4 (b0 (m7 o8 (pv 3) (pv 1) (fun _ _=>rfl)) c9)) (m7 o8 (pv 3) (pv 1) (fun _ _=>rfl))))
    (c6 (h9 (i:=7) R4.nd rfl (Or.inl rfl) (aB9 DT hr2 d4 (b0 (Q6 E0 (l9 (pv 5) rfl) i9 (j8 _)) (b0 (d9 D.over hr3 d4 (b0 (l9 (pv 5) rfl) (b0 (m7 o8 (pv 3) (pv 1) (fun _ _=>rfl)) c9))) c9))))
    (c6 (q0 (j5 E0 (l9 (pv 5) rfl) i9 (j8 _)) (c6 (h9 (i:=4) R4.nd rfl (Or.inl rfl) (bF2 (pv 4))) (d5 (i8 (d9 Dh hr d4 (b0 (pv 7) (b0 (pv 5) (b0 (pv 6) (b0 (d9 D.neg hr1 d4 (b0 (pv 6) c9)) c9)))))))) j3)
    (M6 (q0 (j5 E0 (l9 (pv 5) rfl) i9 (j8 _))
     (M6 (h9 (i:=8) R4.nd rfl (Or.inl rfl) (aG0 (B7 (pv 4)) (d9 D.neg hr1 d4 (b0 (m7 o8 (l9 (pv 5) rfl) (pv 1) (fun _ _=>rfl)) c9)) (m7 o8 (l9 (pv 5) rfl) (pv 1) (fun _ _=>rfl))))
     (c6 (i8 (d9 Dh hr d4 (b0 (pv 7) (b0 (pv 5) (b0 (pv 6) (b0 (pv 8) c9))))))
     (c6 (A0 (pv 7) (d9 D.minus hr4 d4 (b0 (d9 Dp hr d4 (b0 (l9 (pv 5) rfl) (b0 (pv 1) c9))) (b0 (d9 Dp hr d4 (b0 (pv 3) (b0 (pv 1) c9))) c9))) rfl)
     (d5 (h9 (i:=3) R4.nd rfl (Or.inl rfl) (l9 (pv 5) rfl)))))) j3)
    (d5 (i8 (aw7 PySem.F.plainAttrs_list PySem.F.slot_list_append PySem.F.type_list_append U5 (pv 2) (b0 (pv 7) c9)))))))))
   (d5 (i4 (pv 2))))))) ?_
  refine ⟨(by show 0<=sizeLine;decide),fun L hL=>?_⟩
  have e0:Ext [] G H G (upd H L (.lst [])):=(Ext.refl sm).lend hL
  have oL0:Own G (upd H L (.lst [])) L (.lst []):=⟨c7,sm.free hL⟩
  refine a0 _ rfl (j1 xS CS dxS _ _ rfl (e0.sub _ _ hxS) TS.cl TS.n1 (aW5 _ _) ?_)
  refine a0 _ rfl (j1 xS CS dxS _ _ rfl (e0.sub _ _ hxS) TS.cl TS.n2 (bq8 _ _) (d8 LP rfl (j7 _ (SqL.of (e0.sub _ _ hLP))) ?_))
  refine L7 (K:=K) (a:=LP) (xs:=ps) (fun i σ H'=>∃ (G':Hp) (vmed:V) (vs:List V) (r5 r6 r7 r8:Option V),σ=[some (.ref xS),some (.int (line:Int)),some (.ref L),some vmed,some (.bl (Ma.back y i)),r5,r6,r7,r8]/\Ext [] G H G' H'/\Own G' H' L (.lst vs)/\Tri K G' vmed (Ma.triple y (y.medium i))/\Paired (ak6 K CT G') vs (Ma.j9 y line 0 i))
   (m9 G vm ([]) none none (C6 none none rfl e0 oL0 htri .nil)) (fun i σ H' _ ⟨G',_,_,_,_,_,_,_,e,_⟩=>SqL.of (e.sub _ _ (e.grow _ _ hLP))) ?_ ?_
  ·rintro i ve σ H1 hve ⟨G1,vmed,vs,r5,r6,r7,r8,rfl,e1,oL1,ht1,hp1⟩
   obtain ⟨el,hel,hE⟩:=D6 hpair hve
   have hie:y.elem i=el:=aD3 hel
   have hic:i < y.count:=(List.getElem?_eq_some_iff.mp hel).1
   have g3:=ok.tri (ok.med i)
   obtain ⟨ga,gb,gc,gd⟩:=g3.get hl
   obtain ⟨nS,n0⟩:=ok.ix hl i
   have hix:=Ma.ae7 y line i
   rw [bm9] at hix
   refine a0 (fun σ' H'=>∃ (G':Hp) (vn:V),σ'=[some (.ref xS),some (.int (line:Int)),some (.ref L),some vmed,some (.bl (Ma.back y i)),some ve,some vn,r7,r8]/\Ext [] G1 H1 G' H'/\Fr K G' vn (y.index line i)) ?_ ?_
   ·obtain ⟨pm,xsm,um,rfl,qm,am,fm⟩:=ai6 ht1 ga
    refine a0 _ rfl (a0 _ rfl (K0 (fun hb=>?_) (fun hb=>?_)))
    ·refine a0 _ rfl (a0 _ rfl (j0 pm _ _ _ rfl rfl (e1.sub.seqT qm) am (u0 G1 _ _ rfl e1.sub fm trivial (fun v G2 H2 e2 f2=>(g6 G2 v rfl e2 ?_)))))
     rw [hix,if_pos hb];exact f2
    ·refine a0 _ rfl (a0 _ rfl (j0 pm _ _ _ rfl rfl (e1.sub.seqT qm) am (g6 G1 um rfl (Ext.refl e1.sub) ?_)))
     rw [hix,if_neg (by rw [hb];decide)];exact fm
   rintro σ' H2 ⟨G2,vn,rfl,e2,fn⟩
   have E2:=e1.trans e2
   have oL2:=oL1.ext e2 (by simp)
   have ht2:=ht1.mono e2.grow
   have hE2:=hE.mono E2.grow
   have hE2':=hE2
   obtain ⟨⟨xe,dxe,vg,vl,vc,vk,rfl,hxe,hgap,_,_,hgl⟩,sg,sc,sk⟩:=hE2'
   have nL:∀ z,H z=none->True:=fun _ _=>trivial
   obtain ⟨pm,xsm,um,rfl,qm,am,fm⟩:=ai6 ht2 ga
   refine a0 _ rfl (K1 xe CE dxe _ _ rfl (E2.sub _ _ hxe) TE.cl TE.n1 (ah3 _ _ _ _ _) rfl (a0 _ rfl (j1 xe CE dxe _ _ rfl (E2.sub _ _ hxe) TE.cl TE.n2 (bL1 _ _ _ _ _) (a0 _ rfl (a0 _ rfl (j0 pm _ _ _ rfl rfl (E2.sub.seqT qm) am (j1 G2 _ _ el.gap _ rfl E2.sub hgap fm ⟨sg.mono (by decide),gc.mono (by decide),gd⟩ (fun vw G3 H3 e3 f3=>?_))))))))
   have E3:=E2.trans e3
   refine fun x dx hx hdx hne=>?_
   have hx1:upd H3 dx (.own x) x=none:=by rw [d6 (fun z=>hne z.symm)];exact hx
   have e4:Ext [] G3 H3 G3 (upd (upd H3 dx (.own x)) x (.ins CT dx [])):=((Ext.refl e3.sub).lend hdx).lend hx1
   have hxH:H x=none:=E3.none_of hx
   refine R3 x dx _ _ ⟨rfl,c7,fun z hz=>⟨rfl,?_⟩⟩
   rw [A5,bC1]
   have E4:Ext [] G H G3 (upd (upd H3 dx (.own x)) x (.ins CT dx (stf (.bl (decide (el.kind=.halt_))) vw z z z z z z))):=(E3.lend hdx).lend hx1
   have e34:Ext [] G3 H3 G3 (upd (upd H3 dx (.own x)) x (.ins CT dx (stf (.bl (decide (el.kind=.halt_))) vw z z z z z z))):=((Ext.refl e3.sub).lend hdx).lend hx1
   have ox:Own G3 (upd (upd H3 dx (.own x)) x (.ins CT dx (stf (.bl (decide (el.kind=.halt_))) vw z z z z z z))) x (.ins CT dx (stf (.bl (decide (el.kind=.halt_))) vw z z z z z z)):=⟨c7,e3.sub.free hx⟩
   have oL4:=(oL2.ext e3 (by simp)).ext e34 (by simp)
   have nLx:L≠x:=i0 ((oL2.ext e3 (by simp)).at_) hx
   generalize upd (upd H3 dx (.own x)) x (.ins CT dx (stf (.bl (decide (el.kind=.halt_))) vw z z z z z z))=H4 at E4 e34 ox oL4
   have g13:j6 G1 G3:=e2.grow.trans e3.grow
   have hE4:=hE2.mono e3.grow
   have hxe4:G3 xe=some (.ins CE dxe (ef (.str (az2 el.kind)) vg vl vc vk)):=e3.grow _ _ hxe
   have fn4:=Fr.m e3.grow fn
   have hwalk:y.gap i / y.index line i=el.gap / (Ma.triple y (y.medium i)).getD line 1:=by
    rw [Ma.aP8 y line i gd,hie];rfl
   have f3':Fr K G3 vw (y.gap i / y.index line i):=by rw [hwalk];exact f3
   let Fin:L2.St->Hp->Prop:=fun σ' H'=>∃ (G':Hp) (vmed':V) (r8':Option V) (vb vh vq vd vc' vl':V),σ'=[some (.ref xS),some (.int (line:Int)),some (.ref L),some vmed',some (.bl (Ma.back y (i+1))),some (.ref xe),some vn,some (.ref x),r8']/\Ext [] G H G' H'/\Own G' H' L (.lst vs)/\j6 G3 G'/\Tri K G' vmed' (Ma.triple y (y.medium (i+1)))/\Own G' H' x (.ins CT dx (stf (.bl (Ma.y3 y line i).stop) vw vb vh vq vd vc' vl'))/\Fr K G' vw (Ma.y3 y line i).walk/\Fr K G' vb (Ma.y3 y line i).before/\Fr K G' vh (Ma.y3 y line i).behind/\Fr K G' vq (Ma.y3 y line i).square/\Fr K G' vd (Ma.y3 y line i).bend/\Fr K G' vc' (Ma.y3 y line i).conic/\Fr K G' vl' (Ma.y3 y line i).colour
   have hbs:=Ma.bb1 y i hic
   have hms:=Ma.al8 y i
   rw [hie] at hbs hms
   have fin:∀ σ' H',Fin σ' H'->bz7 (tBM K "list" aR8 (J9 2) (F8 (J9 7) am7)) { nx:=fun σ H'=>∃ (G':Hp) (vmed:V) (vs:List V) (r5 r6 r7 r8:Option V),σ=[some (.ref xS),some (.int (line:Int)),some (.ref L),some vmed,some (.bl (Ma.back y (i+1))),r5,r6,r7,r8]/\Ext [] G H G' H'/\Own G' H' L (.lst vs)/\Tri K G' vmed (Ma.triple y (y.medium (i+1)))/\Paired (ak6 K CT G') vs (Ma.j9 y line 0 (i+1)),rt:=Q } σ' H':=by
    rintro σ' H5 ⟨G5,vmed',r8',vb,vh,vq,vd,vc',vl',rfl,E5,oL5,s35,ht5,ox5,b1,b2,b3,b4,b5,b6,b7⟩
    have hvl:=Paired.length hp1
    have hvl2:(Ma.j9 y line 0 i).length=i:=by unfold Ma.j9;rw [List.length_map,List.length_range']
    refine d8 _ rfl (.inl ⟨rfl,j7 _ (SqL.of oL5.at_)⟩) (a0 _ rfl (u0 L _ _ rfl rfl oL5.at_ (Nat.lt_of_le_of_lt (show vs.length<=64 by omega) (by decide)) ?_))
    have E6:=E5.freeze ox5.at_ hxH
    have sG:j6 G5 (upd G5 x (.ins CT dx (stf (.bl (Ma.y3 y line i).stop) vw vb vh vq vd vc' vl'))):=fun c o hc=>by
     have:c≠x:=fun z=>by rw [z,ox5.fr] at hc;cases hc
     rw [d6 this];exact hc
    have fL:upd G5 x (.ins CT dx (stf (.bl (Ma.y3 y line i).stop) vw vb vh vq vd vc' vl')) L=none:=by rw [d6 nLx];exact oL5.fr
    have E7:=E6.put (.inl hL) fL (o:=.lst (vs++[.ref x]))
    refine m9 _ vmed' (vs++[.ref x]) _ _ (C6 _ _ rfl E7 ⟨c7,fL⟩ (ht5.mono sG) ?_)
    rw [aW0]
    refine Paired.snoc (Paired.map' (fun _ _ z=>((z.mono g13).mono s35).mono sG) hp1) ⟨(m9 x dx vw vb vh (R3 vq vd vc' vl' ⟨rfl,c7,Fr.m sG b1,Fr.m sG b2,Fr.m sG b3,Fr.m sG b4,Fr.m sG b5,Fr.m sG b6,Fr.m sG b7⟩)),ok.stn hl i⟩
   refine a0 _ rfl (K1 xe CE dxe _ _ rfl (E4.sub _ _ hxe4) TE.cl TE.n1 (ah3 _ _ _ _ _) rfl (a0 _ rfl ?_))
   have ht3:=ht2.mono e3.grow
   have hkc:el.kind=.halt_\/el.kind=.mirror\/∃ g,el.kind=.surface g:=by
    cases el.kind with
    | halt_=>exact .inl rfl
    | mirror=>exact .inr (.inl rfl)
    | surface g=>exact .inr (.inr (j7 g rfl))
   obtain ⟨mS,m0⟩:=ok.ix hl (i+1)
   have hix1:=Ma.ae7 y line (i+1)
   rw [bm9] at hix1
   rcases hkc with hk | hk | ⟨g,hk⟩
   ·-- a stop
    rw [hk] at hbs hms
    have hb:Ma.back y (i+1)=Ma.back y i:=hbs
    have hm:y.medium (i+1)=y.medium i:=hms
    have hst:Ma.y3 y line i=⟨true,y.gap i / y.index line i,0,0,0,0,0,0⟩:=by unfold Ma.y3;rw [hie,hk]
    refine ae8 (fun q=>absurd (by rw [hk] at q;exact q) bQ8) (fun _=>?_)
    refine a0 Fin ?_ fin
    refine a0 _ rfl (K1 xe CE dxe _ _ rfl (E4.sub _ _ hxe4) TE.cl TE.n1 (ah3 _ _ _ _ _) rfl (a0 _ rfl (ae8 (fun q=>absurd (by rw [hk] at q;exact q) bA6) (fun _=>?_))))
    refine R3 G3 (.ref pm) r8 z (K1 z z z z z (by rw [hb];rfl) E4 oL4 (j6.refl _) (by rw [hm];exact ht3) ?_ ?_)
    ·rw [hst]
     rw [decide_eq_true hk] at ox
     exact ox
    ·rw [hst];exact ⟨f3',hz _,hz _,hz _,hz _,hz _,hz _⟩
   ·-- a mirror
    rw [hk] at hbs hms
    have hb:Ma.back y (i+1)=!Ma.back y i:=hbs
    have hm:y.medium (i+1)=y.medium i:=hms
    have hneg:y.index line (i+1)=-y.index line i:=by
     rw [hix1,hix,hb]
     show (if (!Ma.back y i)=true then -(Ma.triple y (y.medium (i+1))).getD line 1 else (Ma.triple y (y.medium (i+1))).getD line 1)=-(if Ma.back y i=true then -(Ma.triple y (y.medium i)).getD line 1 else (Ma.triple y (y.medium i)).getD line 1)
     rw [hm]
     cases Ma.back y i
     ·rw [if_pos (by rfl),if_neg (by decide)]
     ·rw [if_neg (by decide),if_pos rfl,Rat.neg_neg]
    have hcol:Ln.spreads y line (i+1) - Ln.spreads y line i=0:=by
     rw [Ma.F6 y line (i+1) (ok.gi hl (i+1)).2,Ma.F6 y line i (ok.gi hl i).2,hm]
     exact Rat.sub_self
    have hst:Ma.y3 y line i=⟨false,y.gap i / y.index line i,y.index line i*el.curve,y.index line (i+1)*el.curve,1 / (y.index line (i+1)*y.index line (i+1)) - 1 / (y.index line i*y.index line i),el.curve*(1 / y.index line (i+1) - 1 / y.index line i),el.conic*(el.curve*(el.curve*el.curve))*(y.index line (i+1) - y.index line i),Ln.spreads y line (i+1) - Ln.spreads y line i⟩:=by unfold Ma.y3;rw [hie,hk]
    refine ae8 (fun _=>?_) (fun q=>absurd (by rw [hk];rfl) q)
    refine a0 _ rfl (a0 _ rfl ?_)
    refine a0 _ rfl (a0 _ rfl (a0 _ rfl (a0 _ rfl (u0 G3 _ _ rfl E4.sub fn4 trivial (fun v5 G5 H5 e5 f5=>?_)))))
    refine m9 G5 x dx (.ref xe) vn (m9 v5 _ _ _ _ (m9 _ _ _ _ el (G0 y.glasses (y.index line i) (y.index line (i+1)) ⟨rfl,e5.sub,ox.ext e5 (by simp),hE4.mono e5.grow,Fr.m e5.grow fn4,?_,nS,mS,n0,m0,fun G6 H6 vb vh vq vd vc' e6 o6 b2 b3 b4 b5 b6=>?_⟩)))
    ·rw [hneg];exact f5
    have e46:Ext [x] G3 H4 G6 H6:=e5.up.trans e6
    have E6:Ext [] G H G6 H6:=Ext.drop hxH (E4.up.trans e46)
    refine a0 Fin ?_ fin
    refine a0 _ rfl (K1 xe CE dxe _ _ rfl (E6.sub _ _ (e46.grow _ _ hxe4)) TE.cl TE.n1 (ah3 _ _ _ _ _) rfl (a0 _ rfl (ae8 (fun q=>absurd (by rw [hk] at q;exact q) bA8) (fun _=>?_))))
    refine R3 G6 (.ref pm) r8 vb (K1 vh vq vd vc' z (by rw [hb];rfl) E6 (oL4.ext e46 (by simpa using nLx)) e46.grow (by rw [hm];exact ht3.mono e46.grow) ?_ ?_)
    ·rw [hst]
     rw [decide_eq_false (by rw [hk];intro q;cases q)] at o6
     exact o6
    ·rw [hst]
     refine ⟨Fr.m e46.grow f3',b2,b3,b4,b5,b6,?_⟩
     show Fr K G6 z (Ln.spreads y line (i+1) - Ln.spreads y line i)
     rw [hcol];exact hz _
   ·-- a surface
    rw [hk] at hbs hms
    have hb:Ma.back y (i+1)=Ma.back y i:=by rw [hbs,if_neg (by intro q;cases q)]
    have hm:y.medium (i+1)=g:=hms
    rw [hk] at hgl
    have hgl4:Tri K G3 vl (Ma.triple y (y.medium (i+1))):=by rw [hm];exact hgl.1.mono e3.grow
    have g31:=ok.tri (ok.med (i+1))
    obtain ⟨ga1,gb1,gc1,gd1⟩:=g31.get hl
    have hst:Ma.y3 y line i=⟨false,y.gap i / y.index line i,y.index line i*el.curve,y.index line (i+1)*el.curve,1 / (y.index line (i+1)*y.index line (i+1)) - 1 / (y.index line i*y.index line i),el.curve*(1 / y.index line (i+1) - 1 / y.index line i),el.conic*(el.curve*(el.curve*el.curve))*(y.index line (i+1) - y.index line i),Ln.spreads y line (i+1) - Ln.spreads y line i⟩:=by unfold Ma.y3;rw [hie,hk]
    refine ae8 (fun q=>absurd (by rw [hk] at q;exact q) bQ7) (fun _=>?_)
    refine a0 Fin ?_ fin
    refine a0 _ rfl (K1 xe CE dxe _ _ rfl (E4.sub _ _ hxe4) TE.cl TE.n1 (ah3 _ _ _ _ _) rfl (a0 _ rfl (ae8 (fun _=>?_) (fun q=>absurd (by rw [hk];rfl) q))))
    refine a0 (fun σ' H'=>∃ (G':Hp) (v5:V),σ'=[some (.ref xS),some (.int (line:Int)),some (.ref L),some (.ref pm),some (.bl (Ma.back y i)),some (.ref xe),some vn,some (.ref x),some v5]/\Ext [] G3 H4 G' H'/\Fr K G' v5 (y.index line (i+1))) ?_ ?_
    ·obtain ⟨pg,xsg,ug,rfl,qg,ag,fg⟩:=ai6 hgl4 ga1
     refine a0 _ rfl (a0 _ rfl (K0 (fun hbb=>?_) (fun hbb=>?_)))
     ·refine a0 _ rfl (j1 xe CE dxe _ _ rfl (E4.sub _ _ hxe4) TE.cl TE.n3 (ah4 _ _ _ _ _) (a0 _ rfl (j0 pg _ _ _ rfl rfl (E4.sub.seqT qg) ag (u0 G3 _ _ rfl E4.sub fg trivial (fun v G5 H5 e5 f5=>(g6 G5 v rfl e5 ?_))))))
      rw [hix1,hb,if_pos hbb];exact f5
     ·refine a0 _ rfl (j1 xe CE dxe _ _ rfl (E4.sub _ _ hxe4) TE.cl TE.n3 (ah4 _ _ _ _ _) (a0 _ rfl (j0 pg _ _ _ rfl rfl (E4.sub.seqT qg) ag (g6 G3 ug rfl (Ext.refl E4.sub) ?_))))
      rw [hix1,hb,if_neg (by rw [hbb];decide)];exact fg
    rintro σ' H5 ⟨G5,v5,rfl,e5,f5⟩
    refine a0 _ rfl (a0 _ rfl (a0 _ rfl (a0 _ rfl (m9 G5 x dx (.ref xe) vn (m9 v5 _ _ _ _ (m9 _ _ _ _ el (G0 y.glasses (y.index line i) (y.index line (i+1)) ⟨rfl,e5.sub,ox.ext e5 (by simp),hE4.mono e5.grow,Fr.m e5.grow fn4,f5,nS,mS,n0,m0,fun G6 H6 vb vh vq vd vc' e6 o6 b2 b3 b4 b5 b6=>?_⟩)))))))
    have e46:Ext [x] G3 H4 G6 H6:=e5.up.trans e6
    refine a0 _ rfl (j1 xe CE dxe _ _ rfl (e6.sub _ _ (e46.grow _ _ hxe4)) TE.cl TE.n3 (ah4 _ _ _ _ _) (a0 _ rfl (l0 G6 _ _ line rfl e6.sub (hgl4.mono e46.grow) g31 hl (fun v7 G7 H7 e7 f7=>?_))))
    refine a0 _ rfl (a0 _ rfl (l0 G7 _ _ line rfl e7.sub (ht3.mono (e46.grow.trans e7.grow)) g3 hl (fun v8 G8 H8 e8 f8=>?_)))
    have s1:=ok.spr hl (i+1)
    have s0:=ok.spr hl i
    rw [Ma.F6 y line (i+1) (ok.gi hl (i+1)).2] at s1
    rw [Ma.F6 y line i (ok.gi hl i).2] at s0
    refine j1 G8 _ _ _ _ rfl e8.sub (Fr.m e8.grow f7) f8 ⟨s1.mono (by decide),s0.mono (by decide)⟩ (fun v9 G9 H9 e9 f9=>?_)
    have e69:Ext [] G6 H6 G9 H9:=(e7.trans e8).trans e9
    have o9:=o6.ext e69 (by simp)
    refine a0 _ rfl (l0 x CT dx _ rfl o9.at_ T.cl T.n8 (by show 8 < 1000;decide) ?_)
    rw [aL1]
    have e49:Ext [x] G3 H4 G9 H9:=e46.tr0 e69
    have e410:Ext [x] G3 H4 G9 (upd H9 x (.ins CT dx (stf (.bl (decide (el.kind=.halt_))) vw vb vh vq vd vc' v9))):=e49.put (.inr (by simp)) o9.fr
    have E10:=Ext.drop hxH (E4.up.trans e410)
    refine a0 _ rfl (j1 xe CE dxe _ _ rfl (E10.sub _ _ (e410.grow _ _ hxe4)) TE.cl TE.n3 (ah4 _ _ _ _ _) ?_)
    refine R3 G9 vl (some v5) vb (K1 vh vq vd vc' v9 (by rw [hb];rfl) E10 (oL4.ext e410 (by simpa using nLx)) e410.grow (hgl4.mono e410.grow) ?_ ?_)
    ·rw [hst]
     refine ⟨?_,o9.fr⟩
     rw [c7,decide_eq_false (by rw [hk];intro q;cases q)]
    ·rw [hst]
     refine ⟨Fr.m e410.grow f3',Fr.m e69.grow b2,Fr.m e69.grow b3,Fr.m e69.grow b4,Fr.m e69.grow b5,Fr.m e69.grow b6,?_⟩
     show Fr K G9 v9 (Ln.spreads y line (i+1) - Ln.spreads y line i)
     rw [Ma.F6 y line (i+1) (ok.gi hl (i+1)).2,Ma.F6 y line i (ok.gi hl i).2]
     exact f9
  ·rintro σ H' ⟨G',vmed,vs,r5,r6,r7,r8,rfl,e1,oL1,ht1,hp1⟩
   refine a0 _ rfl ?_
   have hlen:ps.length=y.count:=Paired.length hpair
   rw [hlen] at hp1
   have E6:=e1.freeze oL1.at_ hL
   have sG:j6 G' (upd G' L (.lst vs)):=fun c o hc=>by
    have:c≠L:=fun z=>by rw [z,oL1.fr] at hc;cases hc
    rw [d6 this];exact hc
   exact k _ _ _ E6 (g6 L vs rfl c7 (Paired.map' (fun _ _ z=>z.mono sG) hp1))
end
end Th
set_option maxHeartbeats 2000000
namespace Th
open PySem PySem.Spec PyProof.Rows L2 TL
open Ln.Num (tellable)
theorem aB7:(2:Nat) ^ 4096<=10 ^ 4300:=Nat.le_trans (Nat.pow_le_pow_left (by decide) 4096) (Nat.pow_le_pow_right (by decide) (by decide))
theorem bF0:(2:Nat) ^ 4096<=10 ^ 4096:=Nat.pow_le_pow_left (by decide) 4096
theorem ai1 (i:Int):Builtin.Int.intBits i<=4096↔i.natAbs < 2 ^ 4096:=by
 unfold Builtin.Int.intBits
 by_cases h0:i=0
 ·subst h0
  exact ⟨fun _=>Nat.pow_pos (by decide),fun _=>Nat.zero_le _⟩
 ·rw [if_neg (by simpa using h0)]
  have hn:i.natAbs≠0:=by omega
  exact Nat.log2_lt hn
theorem at0 {n:Nat}(h:n < 2 ^ 4096):(Ma.am8 n).length<=4096:=bk0 (by decide) (Nat.lt_of_lt_of_le h bF0)
theorem aI6 {i:Int}(h:i.natAbs < 2 ^ 4096):(Ma.au6 i).length<=4097:=by
 unfold Ma.au6
 have:=at0 h
 rw [List.length_append]
 by_cases h:i < 0
 ·rw [if_pos h];simp;omega
 ·rw [if_neg h];simp;omega
theorem af5 (q:Rat):tellable q=true↔q.num.natAbs < 2 ^ 4096/\q.den < 2 ^ 4096:=by
 unfold tellable
 rw [Bool.and_eq_true,decide_eq_true_eq,decide_eq_true_eq]
theorem ay0 {q:Rat}(h:tellable q=true):(Ma.J5 q).length<=8194:=by
 obtain ⟨h1,h2⟩:=(af5 q).mp h
 have a:=aI6 h1
 have b:=at0 h2
 unfold Ma.J5
 split
 ·omega
 ·rw [List.length_append,List.length_cons];omega
theorem az9 (i:Int):(Str.ofString (toString i)).length=(Ma.au6 i).length:=by rw [aN7,az6]
theorem aI5 (n:Nat):Ma.au6 (n:Int)=Ma.am8 n:=by
 unfold Ma.au6
 rw [if_neg (by omega)];rfl
section
variable {w:World}{K:W.Frag}{mg:Str->Option Value}{base:Heap}{CL:Addr}
structure Tm (K:W.Frag)(mg:Str->Option Value)(CL:Addr):Prop where
 bits_:GI mg "MOST_BITS" 4096
 tl_:XC K mg "TooLarge" CL
 str_:mg "str"=none
 ord_:mg "ord"=none
 len_:mg "len"=none
def aQ7 (CL:Addr):Sp:=fun vs H Q E=>∃ q:Rat,vs=[.int q.num,.int (q.den:Int)]/\(tellable q=true->∀ x:Str,tl x=Ma.J5 q->Q (.str x) H)/\(tellable q=false->∀ H',E (.ref CL) none H')
theorem bE3:g9 ["top","bottom"] ["top","bottom"] (d7 W9):=⟨rfl,rfl,rfl,by decide +kernel,rfl,by decide +kernel,by decide +kernel⟩
theorem bI6 {f:Addr}{fd:FuncData}(F:Fun K "exact_text" "exact_text" W9 f fd)(T:Tm K mg CL):l6 prog w K mg base (cxX prog w) 1 f fd ["top","bottom"] (aQ7 CL):=by
 refine F.okX bE3 (fun vs H Q E h=>?_) (fun cdv A outer s H vs Q E hr h=>?_)
 ·obtain ⟨q,rfl,_⟩:=h;rfl
 ·obtain ⟨q,rfl,k1,k2⟩:=h
  refine a0 _ (c6 (q0 (aw4 (j5 al4 (bi5 PySem.F.plainAttrs_int PySem.F.slot_int_bit_length PySem.F.type_int_bit_length ax1 (pv 0)) (pgi T.bits_) (j8 _)) (aq5 (j5 al4 (bi5 PySem.F.plainAttrs_int PySem.F.slot_int_bit_length PySem.F.type_int_bit_length ax1 (pv 1)) (pgi T.bits_) (j8 _)))).pt (d5 (D4 L9 rfl (by rfl) T.tl_.m T.tl_.c)) j3)
   (c6 (q0 (j5 E0 (pv 1) g7 (j8 _)) (d5 (i4 (N2 (ba8 rfl) (by rfl) T.str_ boot_str (b0 (pv 0) c9)))) j3)
   (d5 (i4 (bP3 rfl (pv 0) (pv 1)))))) ?_
  refine d8 _ rfl rfl (d8 _ rfl rfl (g6 _ _ rfl rfl (a0 _ rfl (y4 (fun h1=>?_) (fun h1=>?_)))))
  ·refine ag8 (k2 ?_ _)
   cases z:tellable q with
   | false=>rfl
   | true =>
    have:=(ai1 q.num).mpr ((af5 q).mp z).1
    omega
  refine d8 _ rfl rfl (d8 _ rfl rfl (g6 _ _ rfl rfl (a0 _ rfl (y4 (fun h2=>?_) (fun h2=>?_)))))
  ·refine k2 ?_ _
   cases z:tellable q with
   | false=>rfl
   | true =>
    have:=(ai1 (q.den:Int)).mpr ((af5 q).mp z).2
    omega
  have t1:q.num.natAbs < 2 ^ 4096:=(ai1 q.num).mp (by omega)
  have t2:q.den < 2 ^ 4096:=(ai1 (q.den:Int)).mp (by omega)
  have ht:tellable q=true:=(af5 q).mpr ⟨t1,t2⟩
  have kk:=k1 ht
  refine d8 _ rfl rfl (a0 _ rfl (K9 (fun h3=>?_) (fun h3=>?_)))
  ·refine a0 _ rfl (d8 _ rfl (Nat.lt_of_lt_of_le t1 aB7) (kk _ ?_))
   unfold Ma.J5
   rw [if_pos (by omega),az6]
  ·have l1:=aI6 t1
   have l2:=at0 t2
   refine a0 _ rfl (I0 _ rfl (Nat.lt_of_lt_of_le t1 aB7) ?_ (a0 _ rfl (I0 _ rfl (Nat.lt_of_lt_of_le t2 aB7) ?_ (kk _ ?_))))
   ·rw [az9]
    show _+1<=_
    exact Nat.le_trans (show _<=10000 by omega) (by decide)
   ·rw [az9,az9,aI5]
    show _+1+_<=_
    exact Nat.le_trans (show _<=10000 by omega) (by decide)
   ·unfold Ma.J5
    rw [if_neg (by omega),U1,U1,az6,az6,aI5,List.append_assoc];rfl
def aK3 (K:W.Frag)(G:Hp)(v:V)(prs:List (Int×Int)):Prop:=∃ L vs,v=.ref L/\SqL K G L vs/\Paired (fun v (pr:Int×Int)=>∃ t,v=.ref t/\SqT K G t [.int pr.1,.int pr.2]) vs prs
theorem aT0:∀ l:List (List Nat),ax3 [32] l=Ma.U8 l
 | []=>rfl
 | [_]=>rfl
 | x::y::r=>by
  show x++([32]++ax3 [32] (y::r))=x++32::Ma.U8 (y::r)
  rw [aT0 (y::r)];rfl
theorem ax4:∀ l:List (List Nat),(∀ x∈l,x.length<=8194)->(Ma.U8 l).length<=8195*l.length
 | [],_=>Nat.zero_le _
 | [x],h=>by
  have:=h x (by simp)
  show x.length<=_
  simp;omega
 | x::y::r,h=>by
  have h1:=h x (by simp)
  have h2:=ax4 (y::r) fun z hz=>h z (List.mem_cons_of_mem _ hz)
  show (x++32::Ma.U8 (y::r)).length<=_
  rw [List.length_append,List.length_cons]
  simp only [List.length_cons] at h2 ⊢
  omega
def bf3 (K:W.Frag)(CL:Addr):Sp:=fun vs H Q E=>∃ (G:Hp) (a:V) (prs:List (Int×Int)),vs=[a]/\j6 G H/\aK3 K G a prs/\(∀ pr∈prs,pr.2≠0)/\prs.length<=100 /\
 ((Ma.p9 prs).all tellable=false->∀ H',E (.ref CL) none H')/\((Ma.p9 prs).all tellable=true->∀ v G' H',Ext [] G H G' H'->(∃ l,v=.ref l/\G' l=some (.lst ((Ma.E8 (Ma.p9 prs)).map V.int)))->Q v H')
theorem V7:g9 ["pairs","texts","top","bottom","least","signs","sign"] ["pairs"] (d7 aB3):=⟨rfl,rfl,rfl,by decide +kernel,rfl,by decide +kernel,by decide +kernel⟩
theorem aX2 {prs:List (Int×Int)}{i:Nat}{pr:Int×Int}(h:prs[i]?=some pr):(Ma.p9 prs)[i]?=some ((pr.1:Rat) / (pr.2:Rat)):=by
 unfold Ma.p9
 rw [List.getElem?_map,h];rfl
theorem aD8 {α:Type}{p:α->Bool}{l:List α}{i:Nat}{x:α}(h:l[i]?=some x)(hp:p x=false):l.all p=false:=by
 rw [List.all_eq_false]
 exact a0 x (List.mem_of_getElem? h) (by rw [hp];decide)
theorem bt1 {f:Addr}{fd:FuncData}(F:Fun K "told" "told" aB3 f fd)(T:Tm K mg CL)(Df:Def prog w K mg base 2 "fraction" ["top","bottom"] (ad6 K))(De:Def prog w K mg base 1 "exact_text" ["top","bottom"] (aQ7 CL)):l6 prog w K mg base (cxX prog w) 3 f fd ["pairs"] (bf3 K CL):=by
 refine F.okX V7 (fun vs H Q E h=>?_) (fun cdv A outer s H vs Q E hr h=>?_)
 ·obtain ⟨G,a,prs,rfl,_⟩:=h;rfl
 ·obtain ⟨G,_,prs,rfl,sm,⟨LP,ps,rfl,hLP,hpair⟩,hnz,hlen,k2,k1⟩:=h
  have hr1:=hr.mono (show 1<=2 by decide)
  refine a0 _ (c6 (h9 (i:=1) V7.nd rfl (Or.inl rfl) (B2 c9))
   (c6 (O8 C9 rfl (L4 (pv 0)) (bF1 rfl (aF9 (B6 (i:=2) V7.nd rfl (Or.inl rfl)) (aF9 (B6 (i:=3) V7.nd rfl (Or.inl rfl)) bs0)))
    (c6 (h9 (i:=4) V7.nd rfl (Or.inl rfl) (d9 Df hr d4 (b0 (pv 2) (b0 (pv 3) c9))))
    (d5 (i8 (aw7 PySem.F.plainAttrs_list PySem.F.slot_list_append PySem.F.type_list_append U5 (pv 1) (b0 (d9 De hr1 d4 (b0 (px 4 (pv 4)) (b0 (px 4 (pv 4)) c9))) c9))))))
   (c6 (bh8 (i:=5) (own:=[("sign",6)]) rfl V7.nd rfl rfl (az8 rfl rfl rfl rfl) (aM8 (bs3 i9 (pv 1))) (ai0 (show bb0 ["pairs","texts","top","bottom","least","signs","sign"] (d7 aB3) _ _=true by decide +kernel)) (fun _ _ _ _ _=>B6 (i:=6) V7.nd rfl (Or.inl rfl)) (fun _ _ _ _ _=>ao1) (fun _ _ _ _ _=>w8 at5 (by rfl) T.ord_ boot_ord (b0 (pv 6) c9)))
   (d5 (i4 (i6 aM9 (B2 (b0 (w8 w9 (by rfl) T.len_ boot_len (b0 (pv 5) c9)) c9)) (pv 5))))))) ?_
  refine ⟨(by show 0<=sizeLine;decide),fun L hL=>?_⟩
  have e0:Ext [] G H G (upd H L (.lst [])):=(Ext.refl sm).lend hL
  have oL0:Own G (upd H L (.lst [])) L (.lst []):=⟨c7,sm.free hL⟩
  have hpl:ps.length=prs.length:=Paired.length hpair
  refine a0 _ rfl (d8 LP rfl (j7 _ (e0.sub.seq hLP)) (L7 (K:=K) (a:=LP) (xs:=ps) (fun i σ H'=>∃ (G':Hp) (xs:List Str) (r2 r3 r4 r5 r6:Option V),σ=[some (.ref LP),some (.ref L),r2,r3,r4,r5,r6]/\Ext [] G H G' H'/\Own G' H' L (.lst (xs.map V.str))/\xs.map tl=((Ma.p9 prs).take i).map Ma.J5/\((Ma.p9 prs).take i).all tellable=true)
   (m9 G ([]) none none none (C6 none none rfl e0 oL0 rfl rfl)) (fun i σ H' _ ⟨G',_,_,_,_,_,_,_,e,_⟩=>e.sub.seq (e.grow.seq hLP)) ?_ ?_))
  ·rintro i u σ H1 hu ⟨G1,xs,r2,r3,r4,r5,r6,rfl,e1,oL1,hx1,ha1⟩
   obtain ⟨pr,hpr,t,rfl,ht⟩:=D6 hpair hu
   have hq:=aX2 hpr
   refine i5 t _ rfl (e1.sub.seqT (e1.grow.seqT ht)) rfl (L8 _ _ rfl (g6 _ _ rfl rfl ?_))
   refine a0 _ rfl (a0 _ rfl (j4 G1 _ _ rfl (hnz pr (List.mem_of_getElem? hpr)) e1.sub (fun v G2 H2 e2 hv=>?_)))
   obtain ⟨p,rfl,hp⟩:=hv
   have oL2:=oL1.ext e2 (by simp)
   refine d8 _ rfl (.inl ⟨rfl,j7 _ (SqL.of oL2.at_)⟩) (j4 p _ _ rfl (e2.sub.seqT hp) rfl (j4 p _ _ rfl (e2.sub.seqT hp) rfl (d8 _ rfl (fun ht2 x hx=>?_) (fun ht2=>k2 (aD8 hq ht2)))))
   have hxl:xs.length=((Ma.p9 prs).take i).length:=by have:=congrArg List.length hx1;simpa using this
   have hxl2:xs.length<=100:=by rw [hxl,List.length_take];unfold Ma.p9;rw [List.length_map];omega
   refine u0 L _ _ rfl rfl oL2.at_ ?_ ?_
   ·rw [List.length_map];exact Nat.lt_of_le_of_lt hxl2 (by decide)
   have e3:=(e1.trans e2).put (.inl hL) oL2.fr (o:=.lst (xs.map V.str++[.str x]))
   have htk:(Ma.p9 prs).take (i+1)=(Ma.p9 prs).take i++[(pr.1:Rat) / (pr.2:Rat)]:=by rw [List.take_add_one,hq];rfl
   refine m9 G2 (xs++[x]) _ _ _ (C6 _ _ rfl e3 ?_ ?_ ?_)
   ·rw [List.map_append];exact ⟨c7,oL2.fr⟩
   ·rw [htk,List.map_append,List.map_append,hx1]
    show _++[tl x]=_
    rw [hx];rfl
   ·rw [htk,List.all_append,ha1]
    show (true && (tellable _ && true))=true
    rw [ht2];rfl
  ·rintro σ H1 ⟨G1,xs,r2,r3,r4,r5,r6,rfl,e1,oL1,hx1,ha1⟩
   have htl:(Ma.p9 prs).take ps.length=Ma.p9 prs:=by rw [hpl];exact List.take_of_length_le (by unfold Ma.p9;rw [List.length_map];exact Nat.le_refl _)
   rw [htl] at hx1 ha1
   have kk:=k1 ha1
   have hxl:xs.length=prs.length:=by
    have:=congrArg List.length hx1
    simp only [List.length_map] at this
    rw [this];unfold Ma.p9;rw [List.length_map]
   have hsmall:∀ y∈xs,y.length<=8194:=fun y hy=>by
    rw [aN7]
    have:tl y∈(Ma.p9 prs).map Ma.J5:=by rw [<-hx1];exact List.mem_map.mpr (a0 y hy rfl)
    obtain ⟨q,hq,e⟩:=List.mem_map.mp this
    rw [<-e]
    exact ay0 (List.all_eq_true.mp ha1 q hq)
   have hsum:∀ l:List Str,(∀ y∈l,y.length<=8194)->(l.map (·.length)).sum<=8194*l.length:=by
    intro l
    induction l with
    | nil=>intro _;exact Nat.le_refl _
    | cons a l ih =>
     intro h
     have h1:=h a (List.mem_cons_self ..)
     have h2:=ih fun y hy=>h y (List.mem_cons_of_mem _ hy)
     simp only [List.map_cons,List.sum_cons,List.length_cons]
     omega
   have hsb:=hsum xs hsmall
   have hcod:tl (Txt.join " " xs)=Ma.U8 ((Ma.p9 prs).map Ma.J5):=by
    rw [bw3,aQ1,hx1]
    show ax3 [32] _=_
    exact aT0 _
   have hjl:(Ma.U8 ((Ma.p9 prs).map Ma.J5)).length<=819500:=by
    have:=ax4 ((Ma.p9 prs).map Ma.J5) fun x hx=>by
     obtain ⟨q,hq,rfl⟩:=List.mem_map.mp hx
     exact ay0 (List.all_eq_true.mp ha1 q hq)
    rw [List.length_map] at this
    have h3:(Ma.p9 prs).length=prs.length:=by unfold Ma.p9;rw [List.length_map]
    omega
   refine ⟨(j7 _ rfl),a0 _ rfl (u0 _ L xs rfl rfl (.inl (SqL.of oL1.at_)) ?_ (a0 _ rfl (fun D hD=>?_)))⟩
   ·show _+_*1<=_
    omega
   generalize Txt.join (Str.ofString " ") xs=X at hcod
   have hsg:sgn X=(Ma.U8 ((Ma.p9 prs).map Ma.J5)).map fun c=>V.str ⟨#[c]⟩:=by
    unfold sgn
    rw [show X.cps.toList=tl X from rfl,hcod]
   generalize hJ:Ma.U8 ((Ma.p9 prs).map Ma.J5)=J at hcod hjl hsg
   refine bl2 (x:=X) (fun i Hc=>Hc=upd H1 D (.lst ((J.take i).map fun (c:Nat)=>V.int (c:Int)))) rfl ?_ ?_
   ·rintro j v Hc hv rfl
    rw [hsg,List.getElem?_map] at hv
    obtain ⟨c,hcc,rfl⟩:∃ c,J[j]?=some c/\v=V.str ⟨#[c]⟩:=by
     cases q:J[j]? with
     | none=>rw [q] at hv;cases hv
     | some x=>rw [q] at hv;exact a0 x rfl ((Option.some.inj hv).symm)
    refine ⟨rfl,a0 _ rfl (d8 _ rfl rfl (d8 _ c7 ?_ ?_))⟩
    ·rw [List.length_map,List.length_take]
     exact Nat.lt_of_le_of_lt (Nat.le_trans (Nat.min_le_right _ _) hjl) (by decide)
    ·rw [A5,List.take_add_one,hcc,List.map_append];rfl
   ·rintro Hc rfl
    have hlX:(sgn X).length=J.length:=by rw [hsg,List.length_map]
    rw [hlX,List.take_length]
    have e2:=e1.lay hD (o:=.lst (J.map fun (c:Nat)=>V.int (c:Int)))
    refine a0 _ rfl (i5 D _ rfl (.inl (.of c7)) (by show 1<=sizeLine;decide) (fun l1 hl1=>?_))
    have ne1:D≠l1:=i0 (c7 (H:=H1) (a:=D)) hl1
    refine a0 _ rfl (l0 l1 D _ _ rfl rfl c7 (by rw [d6 ne1,c7]) ?_ (fun l2 hl2=>?_))
    ·rw [List.length_map]
     show 1+J.length<=sizeLine
     exact Nat.le_trans (show _<=1000000 by omega) (by decide)
    have e3:=e2.lay hl1 (o:=.lst [.int ((J.map fun (c:Nat)=>V.int (c:Int)).length:Nat)])
    have e4:=e3.lay hl2 (o:=.lst ([.int ((J.map fun (c:Nat)=>V.int (c:Int)).length:Nat)]++J.map fun (c:Nat)=>V.int (c:Int)))
    refine kk _ _ _ e4 (a0 l2 rfl ?_)
    rw [c7]
    unfold Ma.E8
    rw [ha1,if_neg (by decide),hJ,List.map_cons,List.map_map,List.length_map]
    rfl
end
end Th
set_option maxHeartbeats 2000000
namespace Th
open PySem PySem.Spec PyProof.Rows L2
open Ma (Stn A4 Sz B)
def aP2 (K:W.Frag)(CT:Addr)(G:Hp)(v:V)(ts:List Stn):Prop:=∃ L vs,v=.ref L/\SqL K G L vs/\Paired (ak6 K CT G) vs ts
theorem aP2.mono {K:W.Frag}{CT:Addr}{G G':Hp}{v:V}{ts:List Stn}(s:j6 G G')(h:aP2 K CT G v ts):aP2 K CT G' v ts:=by
 obtain ⟨L,vs,e,h1,h2⟩:=h
 exact g6 L vs e (s.seq h1) (Paired.map' (fun _ _ z=>z.mono s) h2)
theorem aJ2 (a b:Nat):Int.fdiv (a:Int) (b:Int)=((a / b:Nat):Int):=by
 rw [Int.fdiv_eq_ediv_of_nonneg _ (Int.natCast_nonneg b)];rfl
theorem ab1 {a b:Int}(h:0 < b):Int.fdiv a b=a / b:=Int.fdiv_eq_ediv_of_nonneg _ (Int.le_of_lt h)
theorem den_pos (q:Rat):(0:Int) < (q.den:Int):=by have:=q.den_pos;omega
end Th
set_option maxHeartbeats 2000000
namespace Th
open PySem PySem.Spec PyProof.Rows L2
open Ma (Stn A4 Sz B)
section
variable {w:World}{K:W.Frag}{mg:Str->Option Value}{base:Heap}{CT:Addr}
def bA1 (K:W.Frag):Sp:=fun vs H Q _=>∃ (G:Hp) (L:Addr) (ns:List Nat) (k:Nat),vs=[.ref L]/\j6 G H/\SqL K G L (ns.map fun (n:Nat)=>V.int (n:Int))/\(∀ n∈ns,0 < n/\n < 2 ^ k)/\k*(ns.length+1)+2<=60000000/\Q (.int ((Ma.ag7 ns:Nat):Int)) H
theorem aj4:g9 ["scales","multiple","scale"] ["scales"] (d7 K5):=⟨rfl,rfl,rfl,by decide +kernel,rfl,by decide +kernel,by decide +kernel⟩
theorem aZ2 (l:List Nat)(n:Nat):Ma.ag7 (l++[n])=Ma.ag7 l*(n / Nat.gcd (Ma.ag7 l) n):=by
 unfold Ma.ag7
 rw [List.foldl_append];rfl
theorem bI3 {f:Addr}{fd:FuncData}(F:Fun K "least_multiple" "least_multiple" K5 f fd)(Dg:Def prog w K mg base 1 "common_divisor" ["a","b"] bf9):l6 prog w K mg base (cxX prog w) 2 f fd ["scales"] (bA1 K):=by
 refine F.okX aj4 (fun vs H Q E h=>?_) (fun cdv A outer s H vs Q E hr h=>?_)
 ·obtain ⟨G,L,ns,k,rfl,_⟩:=h;rfl
 ·obtain ⟨G,L,ns,kb,rfl,sm,hL,hp,hk,kk⟩:=h
  have dp:=ao2 (w:=w) (K:=K) (mg:=mg) (base:=base) (N:=["scales","multiple","scale"]) (outer:=outer) (H0:=H) (E:=E) ab9 aj4.gen aj4.co hr
  refine a0 _ (c6 (h9 (i:=1) aj4.nd rfl (Or.inl rfl) g7) (c6 (O8 C9 rfl (L4 (pv 0)) (B6 (i:=2) aj4.nd rfl (Or.inl rfl)) (d5 (aa3 (i:=1) aj4.nd rfl (Or.inl rfl) (i6 (O9 dp) (pv 2) (d9 Dg hr d4 (b0 (pv 1) (b0 (pv 2) c9)))) as4))) (d5 (i4 (pv 1))))) ?_
  refine a0 _ rfl (d8 L rfl (j7 _ (sm.seq hL)) (L7 (K:=K) (a:=L) (xs:=ns.map fun (n:Nat)=>V.int (n:Int)) (fun i σ H'=>H'=H/\∃ r,σ=[some (.ref L),some (.int ((Ma.ag7 (ns.take i):Nat):Int)),r]) ⟨rfl,j7 none rfl⟩ (fun i σ H' _ ⟨e,_⟩=>by rw [e];exact sm.seq hL) ?_ ?_))
  ·rintro i x σ H' hx ⟨rfl,r,rfl⟩
   rw [List.getElem?_map] at hx
   obtain ⟨n,hn,rfl⟩:∃ n,ns[i]?=some n/\x=V.int (n:Int):=by
    cases q:ns[i]? with
    | none=>rw [q] at hx;cases hx
    | some y=>rw [q] at hx;exact a0 y rfl ((Option.some.inj hx).symm)
   obtain ⟨hi,hin⟩:=List.getElem?_eq_some_iff.mp hn
   have hm:=hp n (List.mem_of_getElem? hn)
   have hpos:0 < Ma.ag7 (ns.take i):=Ma.aH9 fun y hy=>(hp y (List.mem_of_mem_take hy)).1
   have hg:0 < Nat.gcd (Ma.ag7 (ns.take i)) n:=Nat.gcd_pos_of_pos_right _ hm.1
   have hbd:Ma.ag7 (ns.take i) < 2 ^ (1+(ns.take i).length*kb):=Ma.aC5 (ns.take i) 1 1 kb (by decide) fun y hy=>(hp y (List.mem_of_mem_take hy)).2
   have hb1:1+(ns.take i).length*kb<=67108864:=by
    have:(ns.take i).length<=ns.length:=by rw [List.length_take];omega
    have h2:(ns.take i).length*kb<=kb*(ns.length+1):=by rw [Nat.mul_comm];exact Nat.mul_le_mul_left _ (by omega)
    omega
   have hb2:kb<=67108864:=by
    have:kb*1<=kb*(ns.length+1):=Nat.mul_le_mul_left _ (by omega)
    omega
   refine a0 _ rfl (a0 _ rfl (a0 _ rfl (a0 _ rfl (L8 _ _ rfl (i5 _ _ rfl rfl (by omega) (C6 _ _ rfl rfl ?_ rfl (j7 (some (.int (n:Int))) ?_)))))))
   ·rw [aJ2]
    exact ⟨B.mono (show B _ ((Ma.ag7 (ns.take i):Nat):Int) from hbd) hb1,B.mono (show B kb (((n / Nat.gcd (Ma.ag7 (ns.take i)) n):Nat):Int) from Nat.lt_of_le_of_lt (Nat.div_le_self _ _) hm.2) hb2⟩
   ·have ht:ns.take (i+1)=ns.take i++[n]:=by rw [List.take_add_one,hn];rfl
    rw [ht,aZ2,aJ2];rfl
  ·rintro σ H' ⟨rfl,r,rfl⟩
   refine a0 _ rfl ?_
   rw [List.length_map,List.take_length];exact kk
def bf5 (K:W.Frag)(CT:Addr):Sp:=fun vs H Q _=>∃ (G:Hp) (v:V) (t:Stn),vs=[v]/\j6 G H/\ak6 K CT G v t/\∀ G' H',Ext [] G H G' H'->Q (.int ((Ma.C7 t:Nat):Int)) H'
theorem bD7:g9 ["station"] ["station"] (d7 M0):=⟨rfl,rfl,rfl,by decide +kernel,rfl,by decide +kernel,by decide +kernel⟩
theorem bH0 {f:Addr}{fd:FuncData}(F:Fun K "station_scale" "station_scale" M0 f fd)(T:Tt K CT)(Dl:Def prog w K mg base 2 "least_multiple" ["scales"] (bA1 K)):l6 prog w K mg base (cxX prog w) 3 f fd ["station"] (bf5 K CT):=by
 refine F.okX bD7 (fun vs H Q E h=>?_) (fun cdv A outer s H vs Q E hr h=>?_)
 ·obtain ⟨G,v,t,rfl,_⟩:=h;rfl
 ·obtain ⟨G,_,t,rfl,sm,⟨⟨x,dx,vw,vb,vh,vs,vd,vc,vl,rfl,hx,_,_,_,⟨p1,rfl,f1⟩,⟨p2,rfl,f2⟩,⟨p3,rfl,f3⟩,⟨p4,rfl,f4⟩⟩,ok⟩,kk⟩:=h
  refine a0 _ (d5 (i4 (d9 Dl hr d4 (b0 (B2 (b0 (m7 o8 (l9 (pv 0) rfl) g7 (fun _ _=>rfl)) (b0 (m7 o8 (l9 (pv 0) rfl) g7 (fun _ _=>rfl)) (b0 (m7 o8 (l9 (pv 0) rfl) g7 (fun _ _=>rfl)) (b0 (m7 o8 (l9 (pv 0) rfl) g7 (fun _ _=>rfl)) c9))))) c9)))) ?_
  have hx':=sm _ _ hx
  refine a0 _ rfl (j1 x CT dx _ _ rfl hx' T.cl T.n5 rfl (j0 p1 _ _ _ rfl rfl (sm.seqT f1) rfl (a0 _ rfl (j1 x CT dx _ _ rfl hx' T.cl T.n6 rfl (j0 p2 _ _ _ rfl rfl (sm.seqT f2) rfl (a0 _ rfl (j1 x CT dx _ _ rfl hx' T.cl T.n7 rfl (j0 p3 _ _ _ rfl rfl (sm.seqT f3) rfl (a0 _ rfl (j1 x CT dx _ _ rfl hx' T.cl T.n8 rfl (l0 p4 _ _ _ rfl rfl (sm.seqT f4) rfl (by show 4<=sizeLine;decide) (fun l hl=>?_))))))))))))
  have e1:Ext [] G H _ _:=(Ext.refl sm).lay hl (o:=.lst [.int t.square.den,.int t.bend.den,.int t.conic.den,.int t.colour.den])
  refine l0 _ l ([t.square.den,t.bend.den,t.conic.den,t.colour.den]) 400 rfl e1.sub (.of c7) ?_ (by show 400*(4+1)+2<=60000000;decide) (kk _ _ e1)
  intro n hn
  simp only [List.mem_cons,List.not_mem_nil,or_false] at hn
  rcases hn with rfl | rfl | rfl | rfl
  ·exact ⟨Rat.den_pos _,ok.square.2⟩
  ·exact ⟨Rat.den_pos _,ok.bend.2⟩
  ·exact ⟨Rat.den_pos _,ok.conic.2⟩
  ·exact ⟨Rat.den_pos _,ok.colour.2⟩
def bD3 (K:W.Frag):Sp:=fun vs H Q _=>∃ (G:Hp) (v:V) (q:Rat) (s:Int),vs=[v,.int s]/\j6 G H/\Fr K G v q/\Sz 60000000 q/\B 60000000 s/\Q (.int (Ma.onI q s)) H
theorem bg7:g9 ["number","scale"] ["number","scale"] (d7 ad7):=⟨rfl,rfl,rfl,by decide +kernel,rfl,by decide +kernel,by decide +kernel⟩
theorem bP9 {f:Addr}{fd:FuncData}(F:Fun K "on_scale" "on_scale" ad7 f fd):l6 prog w K mg base (cxX prog w) 1 f fd ["number","scale"] (bD3 K):=by
 refine F.okX bg7 (fun vs H Q E h=>?_) (fun cdv A outer s H vs Q E hr h=>?_)
 ·obtain ⟨G,v,q,s,rfl,_⟩:=h;rfl
 ·obtain ⟨G,_,q,sc,rfl,sm,⟨p,rfl,hp⟩,hq,hs,kk⟩:=h
  have dp:=ao2 (w:=w) (K:=K) (mg:=mg) (base:=base) (N:=["number","scale"]) (outer:=outer) (H0:=H) (E:=E) ab9 bg7.gen bg7.co hr
  refine a0 _ (d5 (i4 (i6 i7 (px 0 (pv 0)) (i6 (O9 dp) (pv 1) (px 0 (pv 0)))))) ?_
  refine j4 p _ _ rfl (sm.seqT hp) rfl (a0 _ rfl (j4 p _ _ rfl (sm.seqT hp) rfl (i5 _ _ rfl rfl (Ma.A3 q) (i5 _ _ rfl rfl ?_ ?_))))
  ·rw [ab1 (den_pos q)]
   exact ⟨hq.num.mono (by decide),(B.div hs).mono (by decide)⟩
  ·rw [ab1 (den_pos q)];exact kk
def bA0 (K:W.Frag)(CT:Addr):Sp:=fun vs H Q _=>∃ (G:Hp) (a r:V) (ts:List Stn) (qs:List Rat) (n:Nat),vs=[a,r]/\j6 G H/\aP2 K CT G a ts/\Ls K (Fr K) G r qs/\(∀ q∈qs,Sz n q)/\n*qs.length+390*(ts.length+1)+10<=60000000/\Q (.int (Ma.K7 ts qs)) H
theorem aj3:g9 ["stations","rays","scale","number","station"] ["stations","rays"] (d7 O1):=⟨rfl,rfl,rfl,by decide +kernel,rfl,by decide +kernel,by decide +kernel⟩
theorem aZ1 (l:List Rat)(q:Rat):Ma.T7 (l++[q])=Ma.T7 l*(q.den:Int):=by
 unfold Ma.T7
 rw [List.foldl_append];rfl
theorem aZ0 (l:List Stn)(t:Stn)(n:Int):Ma.aH4 (l++[t]) n=Ma.aH4 l n*(t.walk.den*t.before.den*t.behind.den):=by
 unfold Ma.aH4
 rw [List.foldl_append];rfl
theorem bI2 {f:Addr}{fd:FuncData}(F:Fun K "length_scale" "length_scale" O1 f fd)(T:Tt K CT):l6 prog w K mg base (cxX prog w) 1 f fd ["stations","rays"] (bA0 K CT):=by
 refine F.okX aj3 (fun vs H Q E h=>?_) (fun cdv A outer s H vs Q E hr h=>?_)
 ·obtain ⟨G,a,r,ts,qs,n,rfl,_⟩:=h;rfl
 ·obtain ⟨G,_,_,ts,qs,n,rfl,sm,⟨LS,ss,rfl,hLS,hpS⟩,⟨LR,rs,rfl,hLR,hpR⟩,hsz,hbd,kk⟩:=h
  refine a0 _ (c6 (h9 (i:=2) aj3.nd rfl (Or.inl rfl) g7)
   (c6 (O8 C9 rfl (L4 (pv 1)) (B6 (i:=3) aj3.nd rfl (Or.inl rfl)) (d5 (aa3 (i:=2) aj3.nd rfl (Or.inl rfl) (px 3 (pv 3)) as4)))
   (c6 (O8 C9 rfl (L4 (pv 0)) (B6 (i:=4) aj3.nd rfl (Or.inl rfl)) (d5 (aa3 (i:=2) aj3.nd rfl (Or.inl rfl) (i6 i7 (i6 i7 (m7 o8 (l9 (pv 4) rfl) g7 (fun _ _=>rfl)) (m7 o8 (l9 (pv 4) rfl) g7 (fun _ _=>rfl))) (m7 o8 (l9 (pv 4) rfl) g7 (fun _ _=>rfl))) as4)))
   (d5 (i4 (pv 2)))))) ?_
  have hlR:rs.length=qs.length:=Paired.length hpR
  have hlS:ss.length=ts.length:=Paired.length hpS
  refine a0 _ rfl (d8 LR rfl (j7 _ (sm.seq hLR)) (L7 (K:=K) (a:=LR) (xs:=rs) (fun i σ H'=>H'=H/\∃ r3 r4,σ=[some (.ref LS),some (.ref LR),some (.int (Ma.T7 (qs.take i))),r3,r4]) ⟨rfl,Z3 none none rfl⟩ (fun i σ H' _ ⟨e,_⟩=>by rw [e];exact sm.seq hLR) ?_ ?_))
  ·rintro i x σ H' hx ⟨rfl,r3,r4,rfl⟩
   obtain ⟨q,hq,p,rfl,hp⟩:=D6 hpR hx
   have ht:qs.take (i+1)=qs.take i++[q]:=by rw [List.take_add_one,hq];rfl
   have hqs:=hsz q (List.mem_of_getElem? hq)
   have b1:=Ma.aC3 (qs.take i) n fun z hz=>hsz z (List.mem_of_mem_take hz)
   have hle:(qs.take i).length<=qs.length:=by rw [List.length_take];omega
   have h2:n*(qs.take i).length<=n*qs.length:=Nat.mul_le_mul_left _ hle
   have h3:1<=qs.length:=Nat.lt_of_le_of_lt (Nat.zero_le i) (List.getElem?_eq_some_iff.mp hq).1
   have h4:n*1<=n*qs.length:=Nat.mul_le_mul_left _ h3
   refine a0 _ rfl (j4 p _ _ rfl (sm.seqT hp) rfl (C6 _ _ rfl rfl ⟨b1.mono (by omega),hqs.den.mono (by omega)⟩ rfl (Z3 (some (.ref p)) r4 ?_)))
   rw [ht,aZ1];rfl
  ·rintro σ H' ⟨rfl,r3,r4,rfl⟩
   rw [hlR,List.take_length]
   have bR:=Ma.aC3 qs n hsz
   refine a0 _ rfl (d8 LS rfl (j7 _ (sm.seq hLS)) (L7 (K:=K) (a:=LS) (xs:=ss) (fun i σ H''=>H''=H'/\∃ r3 r4,σ=[some (.ref LS),some (.ref LR),some (.int (Ma.aH4 (ts.take i) (Ma.T7 qs))),r3,r4]) ⟨rfl,Z3 r3 r4 rfl⟩ (fun i σ H' _ ⟨e,_⟩=>by rw [e];exact sm.seq hLS) ?_ ?_))
   ·rintro i x σ H'' hx ⟨rfl,r3,r4,rfl⟩
    obtain ⟨t,ht,hst⟩:=D6 hpS hx
    obtain ⟨⟨y,dy,vw,vb,vh,vs,vd,vc,vl,rfl,hy,⟨p1,rfl,f1⟩,⟨p2,rfl,f2⟩,⟨p3,rfl,f3⟩,_⟩,ok⟩:=hst
    have hy':=sm _ _ hy
    have hallok:∀ z∈ts,A4 z:=by
     intro z hz
     obtain ⟨j,hj,hjz⟩:=List.getElem_of_mem hz
     have key:∀ {xs:List V}{ys:List Stn},Paired (ak6 K CT G) xs ys->∀ y∈ys,A4 y:=by
      intro xs ys hp
      induction hp with
      | nil=>intro y hy;cases hy
      | @cons a b l m h t ih =>
       intro y hy
       rcases List.mem_cons.mp hy with e | e
       ·rw [e];exact h.ok
       ·exact ih y e
     exact key hpS z hz
    have bT:B (1+n*qs.length+(1+390*ts.length)) (Ma.aH4 (ts.take i) (Ma.T7 qs)):=by
     rw [Ma.ag6]
     refine (bR.mul (Ma.bh4 (ts.take i) fun z hz=>hallok z (List.mem_of_mem_take hz))).mono ?_
     have:(ts.take i).length<=ts.length:=by rw [List.length_take];omega
     omega
    have htk:ts.take (i+1)=ts.take i++[t]:=by rw [List.take_add_one,ht];rfl
    refine a0 _ rfl (a0 _ rfl (j1 y CT dy _ _ rfl hy' T.cl T.n2 rfl (j0 p1 _ _ _ rfl rfl (sm.seqT f1) rfl (a0 _ rfl (j1 y CT dy _ _ rfl hy' T.cl T.n3 rfl (j0 p2 _ _ _ rfl rfl (sm.seqT f2) rfl (i5 _ _ rfl rfl ⟨ok.walk.den.mono (by decide),ok.before.den.mono (by decide)⟩ (a0 _ rfl (j1 y CT dy _ _ rfl hy' T.cl T.n4 rfl (j0 p3 _ _ _ rfl rfl (sm.seqT f3) rfl (i5 _ _ rfl rfl ⟨(ok.walk.den.mul ok.before.den).mono (by decide),ok.behind.den.mono (by decide)⟩ (C6 _ _ rfl rfl ⟨bT.mono (by omega),((ok.walk.den.mul ok.before.den).mul ok.behind.den).mono (by decide)⟩ rfl (Z3 r3 (some (.ref y)) ?_)))))))))))))
    rw [htk,aZ0];rfl
   ·rintro σ H'' ⟨rfl,r3,r4,rfl⟩
    refine a0 _ rfl ?_
    rw [hlS,List.take_length];exact kk
end
end Th
set_option maxHeartbeats 2000000
namespace Th
open PySem PySem.Spec PyProof.Rows L2
open Ma (Stn A4 Sz B)
theorem bo6 {K:W.Frag}{CT:Addr}{G:Hp}{xs:List V}{ys:List Stn}(hp:Paired (ak6 K CT G) xs ys):∀ y∈ys,A4 y:=by
 induction hp with
 | nil=>intro y hy;cases hy
 | @cons a b l m h t ih =>
  intro y hy
  rcases List.mem_cons.mp hy with e | e
  ·rw [e];exact h.ok
  ·exact ih y e
theorem as0:∀ (l:List Stn) (t:Stn) (h a:Int),Ma.Y4 (l++[t]) h a=Ma.Y4 [t] (Ma.Y4 l h a).1 (Ma.Y4 l h a).2
 | [],t,h,a=>rfl
 | s::l,t,h,a=>as0 l t _ _
theorem ah1:∀ (l:List Stn) (t:Stn) (h a:Int),Ma.B0 (l++[t]) h a=Ma.B0 l h a++Ma.B0 [t] (Ma.Y4 l h a).1 (Ma.Y4 l h a).2
 | [],t,h,a=>rfl
 | s::l,t,h,a=>congrArg (_::·) (ah1 l t _ _)
theorem aS8:∀ (l:List Stn) (n:Nat) (h a:Int),(∀ t∈l,A4 t)->B n h->B n a->B (n+263*l.length) (Ma.Y4 l h a).1/\B (n+263*l.length) (Ma.Y4 l h a).2
 | [],n,h,a,_,hh,ha=>⟨hh,ha⟩
 | t::l,n,h,a,ok,hh,ha=>by
  obtain ⟨b1,b2,b3⟩:=Ma.bk7 (ok t List.mem_cons_self) hh ha
  have:=aS8 l (n+263) _ _ (fun z hz=>ok z (List.mem_cons_of_mem _ hz)) (b1.mono (by omega)) b3
  refine ⟨this.1.mono ?_,this.2.mono ?_⟩<;>(rw [List.length_cons];omega)
theorem Q8:∀ (l:List Stn) (h a:Int),(Ma.B0 l h a).length=l.length
 | [],_,_=>rfl
 | t::l,h,a=>congrArg (·+1) (Q8 l _ _)
theorem aw1 {G:Hp}{p:Addr}{o:HO}(h:G p=none):j6 G (upd G p o):=fun b u e=>by
 have ne:b≠p:=fun z=>by rw [z,h] at e;cases e
 rw [d6 ne];exact e
section
variable {w:World}{K:W.Frag}{mg:Str->Option Value}{base:Heap}{CT:Addr}
def Pr2 (K:W.Frag)(G:Hp)(v:V)(pr:Int×Int):Prop:=∃ t,v=.ref t/\SqT K G t [.int pr.1,.int pr.2]
theorem Pr2.mono {K:W.Frag}{G G':Hp}(s:j6 G G')(v:V)(pr:Int×Int)(h:Pr2 K G v pr):Pr2 K G' v pr:=by
 obtain ⟨t,e,h⟩:=h;exact a0 t e (s.seqT h)
def aF1 (K:W.Frag)(CT:Addr):Sp:=fun vs H Q _=>∃ (G:Hp) (a:V) (ts:List Stn) (h c:Int) (n:Nat),vs=[a,.int h,.int c]/\j6 G H/\aP2 K CT G a ts/\B n h/\B n c/\n+263*(ts.length+1)+200<=60000000/\ts.length<=1000/\∀ v G' H',Ext [] G H G' H'->aK3 K G' v (Ma.B0 ts h c)->Q v H'
theorem Z9:g9 ["stations","height","angle","meetings","station","incidence"] ["stations","height","angle"] (d7 aq3):=⟨rfl,rfl,rfl,by decide +kernel,rfl,by decide +kernel,by decide +kernel⟩
theorem bI5 {f:Addr}{fd:FuncData}(F:Fun K "follow" "follow" aq3 f fd)(T:Tt K CT):l6 prog w K mg base (cxX prog w) 1 f fd ["stations","height","angle"] (aF1 K CT):=by
 refine F.okX Z9 (fun vs H Q E h=>?_) (fun cdv A outer s H vs Q E hr h=>?_)
 ·obtain ⟨G,a,ts,h,c,n,rfl,_⟩:=h;rfl
 ·obtain ⟨G,_,ts,h0,c0,n,rfl,sm,⟨LS,ss,rfl,hLS,hpS⟩,bh,bc,hbd,hlen,kk⟩:=h
  have dp:=ao2 (w:=w) (K:=K) (mg:=mg) (base:=base) (N:=["stations","height","angle","meetings","station","incidence"]) (outer:=outer) (H0:=H) (E:=E) ab9 Z9.gen Z9.co hr
  refine a0 _ (c6 (h9 (i:=3) Z9.nd rfl (Or.inl rfl) (B2 c9))
   (c6 (O8 C9 rfl (L4 (pv 0)) (B6 (i:=4) Z9.nd rfl (Or.inl rfl))
    (c6 (aa3 (i:=1) Z9.nd rfl (Or.inl rfl) (i6 (O9 dp) (i6 i7 (m7 o8 (l9 (pv 4) rfl) g7 (fun _ _=>rfl)) (pv 2)) (m7 o8 (l9 (pv 4) rfl) g7 (fun _ _=>rfl))) bw8)
    (c6 (h9 (i:=5) Z9.nd rfl (Or.inl rfl) (i6 J3 (pv 2) (i6 (O9 dp) (i6 i7 (m7 o8 (l9 (pv 4) rfl) g7 (fun _ _=>rfl)) (pv 1)) (m7 o8 (l9 (pv 4) rfl) g7 (fun _ _=>rfl)))))
    (c6 (i8 (aw7 PySem.F.plainAttrs_list PySem.F.slot_list_append PySem.F.type_list_append U5 (pv 3) (b0 (y1 (b0 (pv 1) (b0 (pv 5) c9))) c9)))
    (d5 (h9 (i:=2) Z9.nd rfl (Or.inl rfl) (i6 T5 (pv 5) (i6 (O9 dp) (i6 i7 (m7 o8 (l9 (pv 4) rfl) g7 (fun _ _=>rfl)) (pv 1)) (m7 o8 (l9 (pv 4) rfl) g7 (fun _ _=>rfl))))))))))
   (d5 (i4 (pv 3))))) ?_
  have hlS:ss.length=ts.length:=Paired.length hpS
  have hok:=bo6 hpS
  refine ⟨(by show 0<=sizeLine;decide),fun M hM=>?_⟩
  have e0:Ext [] G H G (upd H M (.lst [])):=(Ext.refl sm).lend hM
  have oM0:Own G (upd H M (.lst [])) M (.lst []):=⟨c7,sm.free hM⟩
  refine a0 _ rfl (d8 LS rfl (j7 _ (e0.sub.seq hLS)) (L7 (K:=K) (a:=LS) (xs:=ss) (fun i σ H'=>∃ (G':Hp) (ms:List V) (r4 r5:Option V),σ=[some (.ref LS),some (.int (Ma.Y4 (ts.take i) h0 c0).1),some (.int (Ma.Y4 (ts.take i) h0 c0).2),some (.ref M),r4,r5]/\Ext [] G H G' H'/\Own G' H' M (.lst ms)/\Paired (Pr2 K G') ms (Ma.B0 (ts.take i) h0 c0))
   (l7 G ([]) none none rfl e0 oM0 .nil) (fun i σ H' _ ⟨G',_,_,_,_,e,_⟩=>e.sub.seq (e.grow.seq hLS)) ?_ ?_))
  ·rintro i u σ H1 hu ⟨G1,ms,r4,r5,rfl,e1,oM,hp⟩
   obtain ⟨t,ht,hst⟩:=D6 hpS hu
   have hst1:=hst.mono e1.grow
   obtain ⟨⟨y,dy,vw,vb,vh,vs,vd,vc,vl,rfl,hy,⟨p1,rfl,f1⟩,⟨p2,rfl,f2⟩,⟨p3,rfl,f3⟩,_⟩,ok⟩:=hst1
   have hy':=e1.sub _ _ hy
   have s1:=e1.sub
   have hi:i < ts.length:=(List.getElem?_eq_some_iff.mp ht).1
   have hil:(ts.take i).length=i:=by rw [List.length_take];omega
   obtain ⟨bh1,bc1⟩:=aS8 (ts.take i) n h0 c0 (fun z hz=>hok z (List.mem_of_mem_take hz)) bh bc
   rw [hil] at bh1 bc1
   have htk:ts.take (i+1)=ts.take i++[t]:=by rw [List.take_add_one,ht];rfl
   generalize hL:Ma.Y4 (ts.take i) h0 c0=L at bh1 bc1 ⊢
   obtain ⟨hh,aa⟩:=L
   obtain ⟨b1,b2,b3⟩:=Ma.bk7 ok bh1 bc1
   refine a0 _ rfl (a0 _ rfl (j1 y CT dy _ _ rfl hy' T.cl T.n2 rfl (j0 p1 _ _ _ rfl rfl (s1.seqT f1) rfl (a0 _ rfl (i5 _ _ rfl rfl ⟨ok.walk.num.mono (by decide),bc1.mono (by omega)⟩ (a0 _ rfl (j1 y CT dy _ _ rfl hy' T.cl T.n2 rfl (j0 p1 _ _ _ rfl rfl (s1.seqT f1) rfl (i5 _ _ rfl rfl (Ma.A3 _) (g6 _ _ rfl rfl ?_))))))))))
   have w1:Int.fdiv (t.walk.num*aa) (t.walk.den:Int)=t.walk.num*aa / t.walk.den:=ab1 (den_pos _)
   have w2:∀ x:Int,Int.fdiv (t.before.num*x) (t.before.den:Int)=t.before.num*x / t.before.den:=fun x=>ab1 (den_pos _)
   have w3:∀ x:Int,Int.fdiv (t.behind.num*x) (t.behind.den:Int)=t.behind.num*x / t.behind.den:=fun x=>ab1 (den_pos _)
   have d1:B 60000000 (hh+Int.fdiv (t.walk.num*aa) (t.walk.den:Int)):=by rw [w1];exact b1.mono (by omega)
   refine a0 _ rfl (a0 _ rfl (j1 y CT dy _ _ rfl hy' T.cl T.n3 rfl (j0 p2 _ _ _ rfl rfl (s1.seqT f2) rfl (a0 _ rfl (i5 _ _ rfl rfl ⟨ok.before.num.mono (by decide),d1.mono (by decide)⟩ (a0 _ rfl (j1 y CT dy _ _ rfl hy' T.cl T.n3 rfl (j0 p2 _ _ _ rfl rfl (s1.seqT f2) rfl (i5 _ _ rfl rfl (Ma.A3 _) (g6 _ _ rfl rfl ?_))))))))))
   refine d8 _ rfl (.inl ⟨rfl,j7 _ (SqL.of oM.at_)⟩) (a0 _ rfl (d8 _ rfl (by show 2<=sizeLine;decide) (fun T2 hT2=>?_)))
   have ne2:M≠T2:=i0 oM.at_ hT2
   have hml:ms.length < sizeLine:=by
    have:=Paired.length hp
    rw [this,Q8,hil]
    exact Nat.lt_of_lt_of_le (Nat.lt_of_lt_of_le hi hlen) (by decide)
   refine u0 M ms _ rfl rfl (by rw [d6 ne2];exact oM.at_) hml ?_
   have e2:=e1.lay hT2 (o:=.tup [.int (hh+Int.fdiv (t.walk.num*aa) (t.walk.den:Int)),.int (aa+Int.fdiv (t.before.num*(hh+Int.fdiv (t.walk.num*aa) (t.walk.den:Int))) (t.before.den:Int))])
   have gT:G1 T2=none:=s1.free hT2
   have g12:=aw1 (o:=.tup [.int (hh+Int.fdiv (t.walk.num*aa) (t.walk.den:Int)),.int (aa+Int.fdiv (t.before.num*(hh+Int.fdiv (t.walk.num*aa) (t.walk.den:Int))) (t.before.den:Int))]) gT
   have gM:(upd G1 T2 (.tup [.int (hh+Int.fdiv (t.walk.num*aa) (t.walk.den:Int)),.int (aa+Int.fdiv (t.before.num*(hh+Int.fdiv (t.walk.num*aa) (t.walk.den:Int))) (t.before.den:Int))])) M=none:=by rw [d6 ne2];exact oM.fr
   have e3:=e2.put (.inl hM) gM (o:=.lst (ms++[.ref T2]))
   have hy3:=e3.sub _ _ (g12 _ _ hy)
   have f33:=e3.sub.seqT (g12.seqT f3)
   refine a0 _ rfl (a0 _ rfl (j1 y CT dy _ _ rfl hy3 T.cl T.n4 rfl (j0 p3 _ _ _ rfl rfl f33 rfl (a0 _ rfl (i5 _ _ rfl rfl ⟨ok.behind.num.mono (by decide),d1.mono (by decide)⟩ (a0 _ rfl (j1 y CT dy _ _ rfl hy3 T.cl T.n4 rfl (j0 p3 _ _ _ rfl rfl f33 rfl (i5 _ _ rfl rfl (Ma.A3 _) (g6 _ _ rfl rfl ?_))))))))))
   refine l7 _ (ms++[.ref T2]) (some (.ref y)) (some (.int (aa+Int.fdiv (t.before.num*(hh+Int.fdiv (t.walk.num*aa) (t.walk.den:Int))) (t.before.den:Int)))) ?_ e3 ⟨c7,gM⟩ ?_
   ·rw [htk,as0,hL]
    simp only [w1,w2,w3]
    rfl
   ·rw [htk,ah1,hL]
    refine Paired.snoc (Paired.map' (fun v pr h=>Pr2.mono g12 v pr h) hp) (a0 T2 rfl ?_)
    refine SqT.of ?_
    rw [c7]
    simp only [w1,w2]
  ·rintro σ H1 ⟨G1,ms,r4,r5,rfl,e1,oM,hp⟩
   rw [hlS,List.take_length] at hp
   have e2:=e1.freeze oM.at_ hM
   refine a0 _ rfl (kk _ _ _ e2 (g6 M ms rfl (.of c7) (Paired.map' (fun v pr h=>Pr2.mono (aw1 oM.fr) v pr h) hp)))
end
end Th
set_option maxHeartbeats 2000000
namespace Th
open PySem PySem.Spec PyProof.Rows L2
open Ma (Stn A4 Sz B)
section
variable {w:World}{K:W.Frag}{mg:Str->Option Value}{base:Heap}{CT:Addr}
def aE9 (K:W.Frag)(CT:Addr):Sp:=fun vs H Q _=>∃ (G:Hp) (v:V) (t:Stn) (y a z b:Int) (n:Nat),vs=[v,.int y,.int a,.int z,.int b]/\j6 G H/\ak6 K CT G v t/\B n y/\B n a/\B n z/\B n b/\n<=1000000/\∀ v G' H',Ext [] G H G' H'->(∃ l,v=.ref l/\G' l=some (.lst ((Ma.an7 t y a z b).map V.int)))->Q v H'
theorem Z8:g9 ["station","y","a","z","b","scale","square","bend","conic","colour","core","invariant"] ["station","y","a","z","b"] (d7 R8):=⟨rfl,rfl,rfl,by decide +kernel,rfl,by decide +kernel,by decide +kernel⟩
theorem bt0 {q:Rat}{t:Stn}(h:Sz 400 q)(ok:A4 t):B 2001 (Ma.onI q ((Ma.C7 t:Nat):Int)) :=
 (h.num.mul (B.div (d:=q.den) (show B 1601 ((Ma.C7 t:Nat):Int) from Ma.bg2 t ok))).mono (by decide)
theorem bG9 {f:Addr}{fd:FuncData}(F:Fun K "shaped_part" "shaped_part" R8 f fd)(T:Tt K CT)(Ds:Def prog w K mg base 3 "station_scale" ["station"] (bf5 K CT))(Do:Def prog w K mg base 1 "on_scale" ["number","scale"] (bD3 K)) :
  l6 prog w K mg base (cxX prog w) 4 f fd ["station","y","a","z","b"] (aE9 K CT):=by
 refine F.okX Z8 (fun vs H Q E h=>?_) (fun cdv A outer s H vs Q E hr h=>?_)
 ·obtain ⟨G,v,t,y,a,z,b,n,rfl,_⟩:=h;rfl
 ·obtain ⟨G,v,t,y,a,z,b,n,rfl,sm,hst,by_,ba,bz,bb,hn,kk⟩:=h
  have hr1:=hr.mono (show 1<=3 by decide)
  refine a0 _ (c6 (h9 (i:=5) Z8.nd rfl (Or.inl rfl) (d9 Ds hr d4 (b0 (pv 0) c9)))
   (c6 (h9 (i:=6) Z8.nd rfl (Or.inl rfl) (d9 Do hr1 d4 (b0 (l9 (pv 0) rfl) (b0 (pv 5) c9))))
   (c6 (h9 (i:=7) Z8.nd rfl (Or.inl rfl) (d9 Do hr1 d4 (b0 (l9 (pv 0) rfl) (b0 (pv 5) c9))))
   (c6 (h9 (i:=8) Z8.nd rfl (Or.inl rfl) (i6 i7 (d9 Do hr1 d4 (b0 (l9 (pv 0) rfl) (b0 (pv 5) c9))) (pv 1)))
   (c6 (h9 (i:=9) Z8.nd rfl (Or.inl rfl) (i6 i7 (d9 Do hr1 d4 (b0 (l9 (pv 0) rfl) (b0 (pv 5) c9))) (pv 1)))
   (c6 (h9 (i:=10) Z8.nd rfl (Or.inl rfl) (i6 i7 (pv 1) (i6 T5 (i6 i7 (pv 7) (pv 1)) (i6 i7 (pv 6) (pv 2)))))
   (c6 (h9 (i:=11) Z8.nd rfl (Or.inl rfl) (i6 T5 (i6 i7 (pv 2) (pv 3)) (i6 i7 (pv 4) (pv 1))))
   (d5 (i4 (B2 (b0 (i6 J3 (i6 i7 (i6 i7 (pv 2) (pv 2)) (pv 10)) (i6 i7 (i6 i7 (pv 8) (pv 1)) (i6 i7 (pv 1) (pv 1)))) (b0 (i6 J3 (i6 i7 (i6 i7 (pv 2) (pv 4)) (pv 10)) (i6 i7 (i6 i7 (pv 8) (pv 1)) (i6 i7 (pv 1) (pv 3)))) (b0 (i6 J3 (i6 i7 (i6 i7 (pv 4) (pv 4)) (pv 10)) (i6 i7 (i6 i7 (pv 8) (pv 1)) (i6 i7 (pv 3) (pv 3)))) (b0 (i6 i7 (i6 i7 (al1 Z6 (pv 7)) (pv 11)) (pv 11)) (b0 (i6 J3 (i6 i7 (pv 4) (i6 T5 (i6 i7 (i6 i7 (pv 7) (pv 3)) (i6 T5 (i6 i7 (i6 i7 g7 (pv 4)) (pv 1)) (i6 i7 (pv 2) (pv 3)))) (i6 i7 (i6 i7 (pv 6) (pv 1)) (i6 i7 (pv 4) (pv 4))))) (i6 i7 (i6 i7 (pv 8) (pv 3)) (i6 i7 (pv 3) (pv 3)))) (b0 (i6 i7 (pv 2) (pv 9)) (b0 (i6 i7 (pv 4) (pv 9)) c9))))))))))))))))) ?_
  have hst':=hst
  obtain ⟨⟨x,dx,vw,vb,vh,vs,vd,vc,vl,rfl,hx,_,_,_,⟨p1,rfl,f1⟩,⟨p2,rfl,f2⟩,⟨p3,rfl,f3⟩,⟨p4,rfl,f4⟩⟩,ok⟩:=hst
  refine a0 _ rfl (j4 G (.ref x) t rfl sm hst' (fun G1 H1 e1=>?_))
  have hx1:=e1.sub _ _ (e1.grow _ _ hx)
  have bs:B 1601 ((Ma.C7 t:Nat):Int):=Ma.bg2 t ok
  have bsq:=bt0 ok.square ok
  have bbd:=bt0 ok.bend ok
  have bcn:=bt0 ok.conic ok
  have bcl:=bt0 ok.colour ok
  have bcny:=bcn.mul by_
  have bcly:=bcl.mul by_
  have b2:=bbd.mul by_
  have b3:=bsq.mul ba
  have b4:=(b2.mono (show _<=1*n+2001 by omega)).sub (b3.mono (show _<=1*n+2001 by omega))
  have b5:=by_.mul b4
  have b6:=ba.mul bz
  have b7:=bb.mul by_
  have b8:=(b6.mono (show _<=2*n+0 by omega)).sub (b7.mono (show _<=2*n+0 by omega))
  have b9:=ba.mul ba
  have b10:=b9.mul b5
  have b11:=bcny.mul by_
  have b12:=by_.mul by_
  have b13:=b11.mul b12
  have b14:=(b10.mono (show _<=4*n+2002 by omega)).add (b13.mono (show _<=4*n+2002 by omega))
  have b15:=ba.mul bb
  have b16:=b15.mul b5
  have b17:=by_.mul bz
  have b18:=b11.mul b17
  have b19:=(b16.mono (show _<=4*n+2002 by omega)).add (b18.mono (show _<=4*n+2002 by omega))
  have b20:=bb.mul bb
  have b21:=b20.mul b5
  have b22:=bz.mul bz
  have b23:=b11.mul b22
  have b24:=(b21.mono (show _<=4*n+2002 by omega)).add (b23.mono (show _<=4*n+2002 by omega))
  have b25:=bbd.neg.mul b8
  have b26:=b25.mul b8
  have b27:=bbd.mul bz
  have k28:B 2 2:=by unfold Ma.B;decide
  have b29:=k28.mul bb
  have b30:=b29.mul by_
  have b31:=(b30.mono (show _<=2*n+2 by omega)).sub (b6.mono (show _<=2*n+2 by omega))
  have b32:=b27.mul b31
  have b33:=bsq.mul by_
  have b34:=b33.mul b20
  have b35:=(b32.mono (show _<=3*n+2004 by omega)).sub (b34.mono (show _<=3*n+2004 by omega))
  have b36:=bb.mul b35
  have b37:=bcny.mul bz
  have b38:=b37.mul b22
  have b39:=(b36.mono (show _<=4*n+2005 by omega)).add (b38.mono (show _<=4*n+2005 by omega))
  have b40:=ba.mul bcly
  have b41:=bb.mul bcly
  refine a0 _ rfl (j1 x CT dx _ _ rfl hx1 T.cl T.n5 rfl (a0 _ rfl (l0 G1 _ t.square _ rfl e1.sub (a0 p1 rfl (e1.grow.seqT f1)) (ok.square.mono (by decide)) (bs.mono (by decide)) ?_)))
  refine a0 _ rfl (j1 x CT dx _ _ rfl hx1 T.cl T.n6 rfl (a0 _ rfl (l0 G1 _ t.bend _ rfl e1.sub (a0 p2 rfl (e1.grow.seqT f2)) (ok.bend.mono (by decide)) (bs.mono (by decide)) ?_)))
  refine a0 _ rfl (j1 x CT dx _ _ rfl hx1 T.cl T.n7 rfl (a0 _ rfl (l0 G1 _ t.conic _ rfl e1.sub (a0 p3 rfl (e1.grow.seqT f3)) (ok.conic.mono (by decide)) (bs.mono (by decide)) (a0 _ rfl (i5 _ _ rfl rfl ⟨bcn.mono (by omega),by_.mono (by omega)⟩ ?_)))))
  refine a0 _ rfl (j1 x CT dx _ _ rfl hx1 T.cl T.n8 rfl (a0 _ rfl (l0 G1 _ t.colour _ rfl e1.sub (a0 p4 rfl (e1.grow.seqT f4)) (ok.colour.mono (by decide)) (bs.mono (by decide)) (a0 _ rfl (i5 _ _ rfl rfl ⟨bcl.mono (by omega),by_.mono (by omega)⟩ ?_)))))
  refine a0 _ rfl (a0 _ rfl (a0 _ rfl (i5 _ _ rfl rfl ⟨bbd.mono (by omega),by_.mono (by omega)⟩ (a0 _ rfl (a0 _ rfl (i5 _ _ rfl rfl ⟨bsq.mono (by omega),ba.mono (by omega)⟩ (g6 _ _ rfl rfl (i5 _ _ rfl rfl ⟨by_.mono (by omega),b4.mono (by omega)⟩ ?_))))))))
  refine a0 _ rfl (a0 _ rfl (i5 _ _ rfl rfl ⟨ba.mono (by omega),bz.mono (by omega)⟩ (a0 _ rfl (a0 _ rfl (i5 _ _ rfl rfl ⟨bb.mono (by omega),by_.mono (by omega)⟩ (g6 _ _ rfl rfl ?_))))))
  refine a0 _ rfl (a0 _ rfl (i5 _ _ rfl rfl ⟨ba.mono (by omega),ba.mono (by omega)⟩ (a0 _ rfl (i5 _ _ rfl rfl ⟨b9.mono (by omega),b5.mono (by omega)⟩ (a0 _ rfl (a0 _ rfl (i5 _ _ rfl rfl ⟨bcny.mono (by omega),by_.mono (by omega)⟩ (a0 _ rfl (a0 _ rfl (i5 _ _ rfl rfl ⟨by_.mono (by omega),by_.mono (by omega)⟩ (i5 _ _ rfl rfl ⟨b11.mono (by omega),b12.mono (by omega)⟩ (g6 _ _ rfl rfl (a0 _ rfl (a0 _ rfl (i5 _ _ rfl rfl ⟨ba.mono (by omega),bb.mono (by omega)⟩ (a0 _ rfl (i5 _ _ rfl rfl ⟨b15.mono (by omega),b5.mono (by omega)⟩ (a0 _ rfl (a0 _ rfl (i5 _ _ rfl rfl ⟨bcny.mono (by omega),by_.mono (by omega)⟩ (a0 _ rfl (a0 _ rfl (i5 _ _ rfl rfl ⟨by_.mono (by omega),bz.mono (by omega)⟩ (i5 _ _ rfl rfl ⟨b11.mono (by omega),b17.mono (by omega)⟩ (g6 _ _ rfl rfl (a0 _ rfl (a0 _ rfl (i5 _ _ rfl rfl ⟨bb.mono (by omega),bb.mono (by omega)⟩ (a0 _ rfl (i5 _ _ rfl rfl ⟨b20.mono (by omega),b5.mono (by omega)⟩ (a0 _ rfl (a0 _ rfl (i5 _ _ rfl rfl ⟨bcny.mono (by omega),by_.mono (by omega)⟩ (a0 _ rfl (a0 _ rfl (i5 _ _ rfl rfl ⟨bz.mono (by omega),bz.mono (by omega)⟩ (i5 _ _ rfl rfl ⟨b11.mono (by omega),b22.mono (by omega)⟩ (g6 _ _ rfl rfl (a0 _ rfl (a0 _ rfl (a0 _ rfl (i5 _ _ rfl rfl ⟨bbd.neg.mono (by omega),b8.mono (by omega)⟩ (a0 _ rfl (i5 _ _ rfl rfl ⟨b25.mono (by omega),b8.mono (by omega)⟩ (a0 _ rfl (a0 _ rfl (a0 _ rfl (i5 _ _ rfl rfl ⟨bbd.mono (by omega),bz.mono (by omega)⟩ (a0 _ rfl (i5 _ _ rfl rfl ⟨k28.mono (by omega),bb.mono (by omega)⟩ (a0 _ rfl (i5 _ _ rfl rfl ⟨b29.mono (by omega),by_.mono (by omega)⟩ (a0 _ rfl (a0 _ rfl (i5 _ _ rfl rfl ⟨ba.mono (by omega),bz.mono (by omega)⟩ (g6 _ _ rfl rfl (i5 _ _ rfl rfl ⟨b27.mono (by omega),b31.mono (by omega)⟩ (a0 _ rfl (a0 _ rfl (i5 _ _ rfl rfl ⟨bsq.mono (by omega),by_.mono (by omega)⟩ (a0 _ rfl (a0 _ rfl (i5 _ _ rfl rfl ⟨bb.mono (by omega),bb.mono (by omega)⟩ (i5 _ _ rfl rfl ⟨b33.mono (by omega),b20.mono (by omega)⟩ (g6 _ _ rfl rfl (i5 _ _ rfl rfl ⟨bb.mono (by omega),b35.mono (by omega)⟩ (a0 _ rfl (a0 _ rfl (i5 _ _ rfl rfl ⟨bcny.mono (by omega),bz.mono (by omega)⟩ (a0 _ rfl (a0 _ rfl (i5 _ _ rfl rfl ⟨bz.mono (by omega),bz.mono (by omega)⟩ (i5 _ _ rfl rfl ⟨b37.mono (by omega),b22.mono (by omega)⟩ (g6 _ _ rfl rfl (a0 _ rfl (a0 _ rfl (i5 _ _ rfl rfl ⟨ba.mono (by omega),bcly.mono (by omega)⟩ (a0 _ rfl (a0 _ rfl (C6 _ _ rfl rfl ⟨bb.mono (by omega),bcly.mono (by omega)⟩ (by show 7<=sizeLine;decide) (fun l hl=>?_)))))))))))))))))))))))))))))))))))))))))))))))))))))))))))))))))))))))))))))))))
  exact kk _ _ _ (e1.lay hl) (a0 l rfl c7)
end
end Th
set_option maxHeartbeats 2000000
namespace Th
open PySem PySem.Spec PyProof.Rows L2
open Ma (Stn A4 Sz B)
structure Tpz (K:W.Frag)(mg:Str->Option Value)(CP:Addr):Prop where
 np:XC K mg "NotThere" CP
 list_:mg "list"=none
 zip_:mg "zip"=none
section
variable {w:World}{K:W.Frag}{mg:Str->Option Value}{base:Heap}{CT CP:Addr}
def IL (G:Hp)(v:V)(l:List Int):Prop:=∃ p,v=.ref p/\G p=some (.lst (l.map V.int))
def bf7 (K:W.Frag)(CT CP:Addr):Sp:=fun vs H Q E=>∃ (G:Hp) (v m c:V) (t:Stn) (mi ci:Int×Int) (n:Nat),vs=[v,m,c]/\j6 G H/\ak6 K CT G v t/\Pr2 K G m mi/\Pr2 K G c ci/\B n mi.1/\B n mi.2/\B n ci.1/\B n ci.2/\n<=1000000 /\
 match Ma.ag2 t mi ci with
 | some l=>∀ v G' H',Ext [] G H G' H'->IL G' v l->Q v H'
 | none=>∀ H',E (.ref CP) none H'
theorem bE0:g9 ["station","marginal","chief"] ["station","marginal","chief"] (d7 aj7):=⟨rfl,rfl,rfl,by decide +kernel,rfl,by decide +kernel,by decide +kernel⟩
theorem bH9 {f:Addr}{fd:FuncData}(F:Fun K "part_of" "part_of" aj7 f fd)(T:Tt K CT)(Z:Tpz K mg CP)(Ds:Def prog w K mg base 4 "shaped_part" ["station","y","a","z","b"] (aE9 K CT)) :
  l6 prog w K mg base (cxX prog w) 5 f fd ["station","marginal","chief"] (bf7 K CT CP):=by
 refine F.okX bE0 (fun vs H Q E h=>?_) (fun cdv A outer s H vs Q E hr h=>?_)
 ·obtain ⟨G,v,m,c,t,mi,ci,n,rfl,_⟩:=h;rfl
 ·obtain ⟨G,v,_,_,t,mi,ci,n,rfl,sm,hst,⟨tm,rfl,hm⟩,⟨tc,rfl,hc⟩,b1,b2,b3,b4,hn,kk⟩:=h
  refine a0 _ (c6 (q0 (B7 (l9 (pv 0) rfl)) (d5 (i4 (B2 (b0 g7 (b0 g7 (b0 g7 (b0 g7 (b0 g7 (b0 g7 (b0 g7 c9)))))))))) j3)
   (c6 (q0 (j5 E0 (m7 o8 (pv 1) g7 (fun _ _=>rfl)) g7 (j8 _)) (d5 (D4 L9 rfl (by rfl) Z.np.m Z.np.c)) j3)
   (d5 (i4 (d9 Ds hr d4 (b0 (pv 0) (b0 (m7 o8 (pv 1) g7 (fun _ _=>rfl)) (b0 (m7 o8 (pv 1) g7 (fun _ _=>rfl)) (b0 (m7 o8 (pv 2) g7 (fun _ _=>rfl)) (b0 (m7 o8 (pv 2) g7 (fun _ _=>rfl)) c9)))))))))) ?_
  have hst':=hst
  obtain ⟨⟨x,dx,vw,vb,vh,vs,vd,vc,vl,rfl,hx,_⟩,ok⟩:=hst
  have hx1:=sm _ _ hx
  unfold Ma.ag2 at kk
  refine a0 _ rfl (j1 x CT dx _ _ rfl hx1 T.cl T.n1 rfl (a0 _ rfl (K0 (fun h1=>?_) (fun h1=>?_))))
  ·rw [if_pos h1] at kk
   refine ⟨(by show 7<=sizeLine;decide),fun l hl=>?_⟩
   exact kk _ _ _ ((Ext.refl sm).lay hl) (a0 l rfl c7)
  rw [if_neg (by rw [h1];decide)] at kk
  refine a0 _ rfl (l0 tm _ _ _ rfl rfl (sm.seqT hm) rfl rfl (a0 _ rfl (K9 (fun h2=>?_) (fun h2=>?_))))
  ·rw [if_pos h2] at kk
   exact kk _
  ·rw [if_neg h2] at kk
   refine a0 _ rfl (a0 _ rfl (j0 tm _ _ _ rfl rfl (sm.seqT hm) rfl (a0 _ rfl (j0 tm _ _ _ rfl rfl (sm.seqT hm) rfl (a0 _ rfl (j0 tc _ _ _ rfl rfl (sm.seqT hc) rfl (a0 _ rfl (j0 tc _ _ _ rfl rfl (sm.seqT hc) rfl (m9 G _ t _ _ (G0 _ _ n ⟨rfl,sm,hst',b1,b2,b3,b4,hn,fun v G' H' e hv=>kk _ _ _ e hv⟩))))))))))
end
end Th
set_option maxHeartbeats 2000000
namespace Th
open PySem PySem.Spec PyProof.Rows L2
open Ma (Stn A4 Sz B)
section
variable {w:World}{K:W.Frag}{mg:Str->Option Value}{base:Heap}{CT CP:Addr}
def Pr4 (K:W.Frag)(G:Hp)(v:V)(pr:(Int×Int)×(Int×Int)):Prop:=∃ t m c,v=.ref t/\SqT K G t [m,c]/\Pr2 K G m pr.1/\Pr2 K G c pr.2
def bV9 (K:W.Frag)(G:Hp)(v:V)(prs:List ((Int×Int)×(Int×Int))):Prop:=∃ L vs,v=.ref L/\G L=some (.lst vs)/\Paired (Pr4 K G) vs prs
def bf8 (K:W.Frag)(CT:Addr):Sp:=fun vs H Q _=>∃ (G:Hp) (a r:V) (N:Int) (ts:List Stn) (y v z u:Rat) (n:Nat),vs=[a,.int N,r]/\j6 G H/\aP2 K CT G a ts/\Ls K (Fr K) G r [y,v,z,u]/\(∀ q∈[y,v,z,u],Sz 1000 q)/\B n N/\n+1000+263*(ts.length+1)+200<=60000000/\ts.length<=1000/\∀ x G' H',Ext [] G H G' H'->bV9 K G' x (Ma.al7 ts N y v z u)->Q x H'
theorem aq0:g9 ["stations","lengths","rays","begun","marginal","chief","number"] ["stations","lengths","rays"] (d7 L3):=⟨rfl,rfl,rfl,by decide +kernel,rfl,by decide +kernel,by decide +kernel⟩
theorem aw2 {G H:Hp}{p:Addr}{o:HO}(sm:j6 G H)(h:H p=none):j6 G (upd H p o):=(Ext.lend (M:=[]) (Ext.refl sm) h).sub
theorem al5 {q:Rat}{N:Int}{k n:Nat}(h:Sz k q)(hN:B n N):B (k+n) (Ma.onI q N):=h.num.mul (B.div (d:=q.den) hN)
theorem ar1 {α β γ δ:Type}{R:α->β->Prop}{S:γ->δ->Prop}{T:α×γ->β×δ->Prop}(hT:∀ a b c d,R a b->S c d->T (a,c) (b,d)):∀ {xs:List α}{ys:List β},Paired R xs ys->∀ {zs:List γ}{us:List δ},Paired S zs us->Paired T (xs.zip zs) (ys.zip us):=by
 intro xs ys h
 induction h with
 | nil=>intro zs us h';exact .nil
 | @cons a b l m h t ih =>
  intro zs us h'
  cases h' with
  | nil=>exact .nil
  | cons h2 t2=>exact .cons (hT _ _ _ _ h h2) (ih t2)
theorem al3 {α β γ:Type}{R:α->β->Prop}{S:β->γ->Prop}{T:α->γ->Prop}(hT:∀ a b c,R a b->S b c->T a c):∀ {xs:List α}{ys:List β},Paired R xs ys->∀ {zs:List γ},Paired S ys zs->Paired T xs zs:=by
 intro xs ys h
 induction h with
 | nil=>intro zs h';cases h';exact .nil
 | @cons a b l m h t ih =>
  intro zs h'
  cases h' with
  | cons h2 t2=>exact .cons (hT _ _ _ h h2) (ih t2)
theorem ae3 {α β γ:Type}{f:γ->α}{R:α->β->Prop}:∀ {xs:List γ}{ys:List β},Paired (fun c b=>R (f c) b) xs ys->Paired R (xs.map f) ys
 | _,_,.nil=>.nil
 | _,_,.cons h t=>.cons h (ae3 t)
theorem bI1 {f:Addr}{fd:FuncData}(F:Fun K "meetings_of" "meetings_of" L3 f fd)(Z:Tpz K mg CP)(Do:Def prog w K mg base 1 "on_scale" ["number","scale"] (bD3 K))(Df:Def prog w K mg base 1 "follow" ["stations","height","angle"] (aF1 K CT)) :
  l6 prog w K mg base (cxX prog w) 2 f fd ["stations","lengths","rays"] (bf8 K CT):=by
 refine F.okX aq0 (fun vs H Q E h=>?_) (fun cdv A outer s H vs Q E hr h=>?_)
 ·obtain ⟨G,a,r,N,ts,y,v,z,u,n,rfl,_⟩:=h;rfl
 ·obtain ⟨G,a,_,N,ts,y,v,z,u,n,rfl,sm,hts,⟨LR,rs,rfl,hLR,hpR⟩,hsz,hN,hbd,hlen,kk⟩:=h
  refine a0 _ (c6 (aw5 (i:=3) (own:=[("number",6)]) L9 rfl rfl rfl rfl aq0.nd rfl rfl (az8 rfl rfl rfl rfl) (L4 (pv 2)) (ai0 (show bb0 ["stations","lengths","rays","begun","marginal","chief","number"] (d7 L3) _ _=true by decide +kernel)) (fun _ _ _ _ _=>B6 (i:=6) aq0.nd rfl (Or.inl rfl)) (fun _ _ _ _ _=>ao1) (fun _ _ _ _ _ xe' pn' hp'=>d9 Do hr hp' (b0 (pv 6) (b0 (pv 1) c9))))
   (c6 (h9 (i:=4) aq0.nd rfl (Or.inl rfl) (d9 Df hr d4 (b0 (pv 0) (b0 (m7 A9 (pv 3) g7 (fun _ _=>rfl)) (b0 (m7 A9 (pv 3) g7 (fun _ _=>rfl)) c9)))))
   (c6 (h9 (i:=5) aq0.nd rfl (Or.inl rfl) (d9 Df hr d4 (b0 (pv 0) (b0 (m7 A9 (pv 3) g7 (fun _ _=>rfl)) (b0 (m7 A9 (pv 3) g7 (fun _ _=>rfl)) c9)))))
   (d5 (i4 (aq8 rfl (by rfl) Z.list_ (by rfl) Z.zip_ (b0 (pv 4) (b0 (pv 5) c9)))))))) ?_
  have hlR:rs.length=4:=Paired.length hpR
  refine a0 _ rfl (d8 LR rfl (j7 _ (sm.seq hLR)) (fun D hD=>aS6 (K:=K) (a:=LR) (xs:=rs) (fun i Hc=>Hc=upd H D (.lst (([y,v,z,u].take i).map fun q=>V.int (Ma.onI q N)))) rfl (fun i Hc _ e=>by rw [e];exact (aw2 sm hD).seq hLR) ?_ ?_))
  ·rintro i x Hc hx rfl
   obtain ⟨q,hq,hf⟩:=D6 hpR hx
   have hqm:=List.mem_of_getElem? hq
   refine ⟨rfl,a0 _ rfl (a0 _ rfl (l0 G x q N rfl (aw2 sm hD) hf ((hsz q hqm).mono (by decide)) (hN.mono (by omega)) (d8 _ c7 ?_ ?_)))⟩
   ·rw [List.length_map,List.length_take]
    exact Nat.lt_of_le_of_lt (Nat.min_le_right _ _) (show 4 < sizeLine by decide)
   ·rw [A5,List.take_add_one,hq,List.map_append];rfl
  ·rintro Hc rfl
   rw [hlR]
   have e1:Ext [] G H (upd G D (.lst [.int (Ma.onI y N),.int (Ma.onI v N),.int (Ma.onI z N),.int (Ma.onI u N)])) (upd H D (.lst [.int (Ma.onI y N),.int (Ma.onI v N),.int (Ma.onI z N),.int (Ma.onI u N)])):=(Ext.refl sm).lay hD
   have hD1:SqL K (upd H D (.lst [.int (Ma.onI y N),.int (Ma.onI v N),.int (Ma.onI z N),.int (Ma.onI u N)])) D [.int (Ma.onI y N),.int (Ma.onI v N),.int (Ma.onI z N),.int (Ma.onI u N)]:=.of c7
   generalize hG1:upd G D (.lst [.int (Ma.onI y N),.int (Ma.onI v N),.int (Ma.onI z N),.int (Ma.onI u N)])=G1 at e1
   have gD:SqL K G1 D [.int (Ma.onI y N),.int (Ma.onI v N),.int (Ma.onI z N),.int (Ma.onI u N)]:=by rw [<-hG1];exact .of c7
   have oy:B (1000+n) (Ma.onI y N):=al5 (hsz y (by simp)) hN
   have ov:B (1000+n) (Ma.onI v N):=al5 (hsz v (by simp)) hN
   have oz:B (1000+n) (Ma.onI z N):=al5 (hsz z (by simp)) hN
   have ou:B (1000+n) (Ma.onI u N):=al5 (hsz u (by simp)) hN
   refine a0 _ rfl (a0 _ rfl (j0 D _ _ _ rfl rfl hD1 rfl (a0 _ rfl (j0 D _ _ _ rfl rfl hD1 rfl (m9 G1 a ts _ _ (j7 (1000+n) ⟨rfl,e1.sub,hts.mono e1.grow,oy,ov,(by omega),hlen,fun v1 G2 H2 e2 hm=>?_⟩))))))
   have hD2:=e2.sub.seq (e2.grow.seq gD)
   have e02:=e1.trans e2
   refine a0 _ rfl (a0 _ rfl (j0 D _ _ _ rfl rfl hD2 rfl (a0 _ rfl (j0 D _ _ _ rfl rfl hD2 rfl (m9 G2 a ts _ _ (j7 (1000+n) ⟨rfl,e2.sub,hts.mono e02.grow,oz,ou,(by omega),hlen,fun v2 G3 H3 e3 hc=>?_⟩))))))
   obtain ⟨L1,m1,rfl,hL1,hp1⟩:=hm
   obtain ⟨L2,m2,rfl,hL2,hp2⟩:=hc
   have e03:=e02.trans e3
   refine a0 _ rfl (a0 _ rfl (l7 L1 L2 m1 m2 rfl (e3.sub.seq (e3.grow.seq hL1)) (e3.sub.seq hL2) (fun l hl=>aP5 e3.sub hl fun G4 H4 Ts e4 hg hpT=>?_)))
   refine kk _ _ _ (e03.trans e4) (g6 l _ rfl hg (ae3 ?_))
   have q1:Paired (Pr2 K G4) m1 (Ma.B0 ts (Ma.onI y N) (Ma.onI v N)):=Paired.map' (fun v pr h=>Pr2.mono (e3.grow.trans e4.grow) v pr h) hp1
   have q2:Paired (Pr2 K G4) m2 (Ma.B0 ts (Ma.onI z N) (Ma.onI u N)):=Paired.map' (fun v pr h=>Pr2.mono e4.grow v pr h) hp2
   have q3:=ar1 (T:=fun (a:V×V) (b:(Int×Int)×(Int×Int))=>Pr2 K G4 a.1 b.1/\Pr2 K G4 a.2 b.2) (fun a b c d h1 h2=>⟨h1,h2⟩) q1 q2
   exact al3 (fun T p b h1 h2=>(j4 T p.1 p.2 rfl (.of h1) h2.1 h2.2)) hpT q3
end
end Th
set_option maxHeartbeats 2000000
namespace Th
open PySem PySem.Spec PyProof.Rows L2
open Ma (Stn A4 Sz B)
theorem IL.mono {G G':Hp}(s:j6 G G')(v:V)(l:List Int)(h:IL G v l):IL G' v l:=by
 obtain ⟨p,e,h⟩:=h;exact a0 p e (s _ _ h)
end Th
set_option maxHeartbeats 2000000
namespace Th
open PySem PySem.Spec PyProof.Rows L2
open Ln (Bytes System_)
open Ma (Stn A4 Sz B)
open Ln.Num (tellable)
structure XH (K:W.Frag)(mg:Str->Option Value)(x:Str)(C:Addr):Prop where
 m:mg x=some (.ref C)
 c:ai4 K C=true
structure Ta (K:W.Frag)(mg:Str->Option Value)(CN CF CO CP CL:Addr):Prop where
 last_:GI mg "LAST_LINE" 2
 most_:GI mg "MOST_TEXT_BYTES" 65536
 len_:mg "len"=none
 nt:XC K mg "NotTaken" CN
 hN:XH K mg "NotTaken" CN
 hF:XH K mg "Fault" CF
 hO:XH K mg "NoElement" CO
 hP:XH K mg "NotThere" CP
 hL:XH K mg "TooLarge" CL
 fx:∃ fI names,aD9 K CF fI names/\("place" : Str)∈names/\("kind" : Str)∈names
 nFO:CF≠CO
 nFP:CF≠CP
 nFL:CF≠CL
 nNF:CN≠CF
 nNO:CN≠CO
 nNP:CN≠CP
 nNL:CN≠CL
 nOP:CO≠CP
 nOL:CO≠CL
 nPL:CP≠CL
section
variable {w:World}{K:W.Frag}{mg:Str->Option Value}{base:Heap}{CN CF CO CP CL CS CE CT:Addr}
def aQ3 (K:W.Frag)(CN:Addr):Sp:=fun vs H Q E=>∃ (G:Hp) (line:Nat) (a:V) (b:Bytes),vs=[.int (line:Int),a]/\j6 G H/\Bs K G a b/\(2 < line\/65536 < b.length->∀ H',E (.ref CN) none H')/\(line<=2->b.length<=65536->Q .non H)
theorem bD6:g9 ["line","t"] ["line","t"] (d7 N6):=⟨rfl,rfl,rfl,by decide +kernel,rfl,by decide +kernel,by decide +kernel⟩
theorem bG6 {f:Addr}{fd:FuncData}(F:Fun K "refuse_sizes" "refuse_sizes" N6 f fd)(T:Ta K mg CN CF CO CP CL):l6 prog w K mg base (cxX prog w) 1 f fd ["line","t"] (aQ3 K CN):=by
 refine F.okX bD6 (fun vs H Q E h=>?_) (fun cdv A outer s H vs Q E hr h=>?_)
 ·obtain ⟨G,line,a,b,rfl,_⟩:=h;rfl
 ·obtain ⟨G,line,_,b,rfl,sm,⟨p,rfl,hb⟩,k1,k2⟩:=h
  refine a0 _ (d5 (q0 (aw4 (j5 al4 (pv 0) (pgi T.last_) (j8 _)) (aq5 (j5 al4 (w8 w9 (by rfl) T.len_ boot_len (b0 (pv 1) c9)) (pgi T.most_) (j8 _)))).pt (d5 (D4 L9 rfl (by rfl) T.nt.m T.nt.c)) j3)) ?_
  have hlen:(h8 b).length=b.length:=i3 b
  refine a0 _ rfl (g6 _ _ rfl rfl (a0 _ rfl (y4 (fun h1=>?_) (fun h1=>?_))))
  ·exact ag8 (k1 (.inl (by omega)) _)
  refine a0 _ rfl (g6 p _ rfl (.inl (sm.seq hb)) (g6 _ _ rfl rfl (a0 _ rfl (y4 (fun h2=>?_) (fun h2=>?_)))))
  ·exact k1 (.inr (by rw [hlen] at h2;omega)) _
  ·exact k2 (by omega) (by rw [hlen] at h2;omega)
theorem bk1:typeLookup (.type "Exception") "place"=pure none:=by rw [typeLookup_type,builtinLookup_eq_fast];kernel_rfl
theorem bv3:typeLookup (.type "Exception") "kind"=pure none:=by rw [typeLookup_type,builtinLookup_eq_fast];kernel_rfl
theorem ar2 {α β:Type}{R:α->β->Prop}:∀ {xs:List α}{ys:List β},Paired R xs ys->xs.length=ys.length
 | _,_,.nil=>rfl
 | _,_,.cons _ h=>congrArg (·+1) (ar2 h)
theorem bh0 {G:Hp}{p:Addr}{o:HO}(h:G p=none):j6 G (upd G p o):=fun b u e=>by
 have ne:b≠p:=fun z=>by rw [z,h] at e;cases e
 rw [d6 ne];exact e
def M9:List Bytes->Option (List Rat)
 | []=>some []
 | b::bs=>match Ma.y2 b with
  | none=>none
  | some q=>match M9 bs with
   | none=>none
   | some qs=>some (q::qs)
theorem ay9:∀ {l:List Bytes}{qs:List Rat}{b:Bytes}{q:Rat},M9 l=some qs->Ma.y2 b=some q->M9 (l++[b])=some (qs++[q])
 | [],qs,b,q,h,hq=>by cases h;show M9 [b]=_;unfold M9;rw [hq];rfl
 | c::l,qs,b,q,h,hq=>by
  show M9 (c::(l++[b]))=_
  unfold M9 at h ⊢
  cases hc:Ma.y2 c with
  | none=>rw [hc] at h;cases h
  | some p =>
   rw [hc] at h
   cases hl:M9 l with
   | none=>rw [hl] at h;cases h
   | some ps =>
    rw [hl] at h;cases h
    rw [ay9 hl hq];rfl
theorem ac8:∀ {l:List Bytes}{b:Bytes},b∈l->Ma.y2 b=none->M9 l=none
 | c::l,b,h,hq=>by
  unfold M9
  rcases List.mem_cons.mp h with e | e
  ·subst e;rw [hq]
  ·cases hc:Ma.y2 c with
   | none=>rfl
   | some p=>rw [ac8 e hq]
theorem ba0 {b:Bytes}{q:Rat}(h:Ma.y2 b=some q):Sz 60 q:=by
 have key:∀ r:Option Rat,(match r with | some q=>if Ln.Num.fits q=true then some q else none | none=>none)=some q->Ln.Num.fits q=true:=by
  intro r hr
  cases r with
  | none=>cases hr
  | some p =>
   have hr:(if Ln.Num.fits p=true then some p else none)=some q:=hr
   by_cases hf:Ln.Num.fits p=true
   ·rw [if_pos hf] at hr;cases hr;exact hf
   ·rw [if_neg hf] at hr;cases hr
 unfold Ma.y2 at h
 by_cases hl:512 < b.length
 ·rw [if_pos hl] at h;cases h
 ·rw [if_neg hl] at h
  have hf:=key _ h
  unfold Ln.Num.fits at hf
  simp only [Bool.and_eq_true,decide_eq_true_eq] at hf
  refine ⟨?_,?_⟩
  ·exact Nat.lt_of_lt_of_le hf.1 (by decide)
  ·exact Nat.lt_of_lt_of_le hf.2 (by decide)
theorem aV1:∀ {l:List Bytes}{qs:List Rat},M9 l=some qs->qs.length=l.length/\∀ q∈qs,Sz 60 q
 | [],qs,h=>by cases h;exact ⟨rfl,fun q z=>nomatch z⟩
 | b::l,qs,h=>by
  unfold M9 at h
  cases hb:Ma.y2 b with
  | none=>rw [hb] at h;cases h
  | some p =>
   rw [hb] at h
   cases hl:M9 l with
   | none=>rw [hl] at h;cases h
   | some ps =>
    rw [hl] at h;cases h
    obtain ⟨e1,e2⟩:=aV1 hl
    refine ⟨by rw [List.length_cons,List.length_cons,e1],fun q hq=>?_⟩
    rcases List.mem_cons.mp hq with z | z
    ·rw [z];exact ba0 hb
    ·exact e2 q z
def am9 (line:Nat)(b:Bytes)(texts:List Bytes)(rk:List Stn->List Rat->Except Bool (List (Int×Int))):List Int :=
 if 2 < line\/65536 < b.length then [-1] else
 match M9 texts with
 | none=>[-1]
 | some qs=>match Ln.Text.read b with
  | .error e=>[-3,(e.2:Int),(e.1:Int)]
  | .ok s=>match rk (Ma.ac9 s line) qs with
   | .error true=>[-2]
   | .error false=>[-5]
   | .ok prs=>if (Ma.p9 prs).all tellable then Ma.E8 (Ma.p9 prs) else [-6]
def bN6 (K:W.Frag)(CT CO CP:Addr)(n:Nat)(rk:List Stn->List Rat->Except Bool (List (Int×Int))):Sp:=fun vs H Q E=>∃ (G:Hp) (a r:V) (ts:List Stn) (qs:List Rat),vs=[a,r]/\j6 G H/\aK2 K CT G a ts/\Ls K (Fr K) G r qs/\ts.length<=64/\qs.length=n/\(∀ q∈qs,Sz 60 q) /\
 match rk ts qs with
 | .ok prs=>∀ v G' H',Ext [] G H G' H'->aK3 K G' v prs->Q v H'
 | .error true=>∀ H',E (.ref CO) none H'
 | .error false=>∀ H',E (.ref CP) none H'
def bA3 (w:World)(K:W.Frag)(mg:Str->Option Value)(base:Heap)(k:Nat)(CT CO CP:Addr):Sp:=fun vs H Q E=>∃ (G:Hp) (line:Nat) (a x:V) (b:Bytes) (texts:List Bytes) (f:Addr) (Φ:Hp->Prop) (rk:List Stn->List Rat->Except Bool (List (Int×Int))) (out:List Int),vs=[.int (line:Int),a,x,.ref f]/\j6 G H/\Bs K G a b/\Ls K (Bs K) G x texts/\texts.length<=10 /\
 Cal prog w K mg base k f Φ (bN6 K CT CO CP texts.length rk)/\(∀ G' H',Ext [] G H G' H'->Φ H')/\(∀ ts qs prs,rk ts qs=.ok prs->(∀ pr∈prs,pr.2≠0)/\prs.length<=100)/\((∀ s,line<=2->b.length<=65536->M9 texts≠none->Ln.Text.read b=.ok s->Ma.P6 s.glasses)->am9 line b texts rk=out)/\∀ v H',(∃ l,v=.ref l/\H' l=some (.lst (out.map V.int)))->Q v H'
theorem aq1:g9 ["line","t","texts","reckon","numbers","stations","fault","text"] ["line","t","texts","reckon"] (d7 X2):=⟨rfl,rfl,rfl,by decide +kernel,rfl,by decide +kernel,by decide +kernel⟩
theorem bI9 {f:Addr}{fd:FuncData}(F:Fun K "answered" "answered" X2 f fd)(T:Ta K mg CN CF CO CP CL)(Ds:Def prog w K mg base 1 "refuse_sizes" ["line","t"] (aQ3 K CN))(Dh:Def prog w K mg base 5 "handed_over" ["text"] (aF0 K CN))
  (Dr:Def prog w K mg base 14 "read_system" ["text"] (bz9 K CS CE CF)) (Dt:Def prog w K mg base 6 "stations_of" ["system","line"] (ap5 K CS CE CT)) (Dl:Def prog w K mg base 3 "told" ["pairs"] (bf3 K CL)) :
  l6 prog w K mg base (cxX prog w) 15 f fd ["line","t","texts","reckon"] (bA3 w K mg base 14 CT CO CP):=by
 refine F.okX aq1 (fun vs H Q E h=>?_) (fun cdv A outer s H vs Q E hr h=>?_)
 ·obtain ⟨G,line,a,x,b,texts,f,Φ,rk,out,rfl,_⟩:=h;rfl
 ·obtain ⟨G,line,a,x,b,texts,fr,Φ,rk,out,rfl,sm,hb,hx,hn,C,hΦ,hrk,hout,kk0⟩:=h
  have kk:(∀ s,line<=2->b.length<=65536->M9 texts≠none->Ln.Text.read b=.ok s->Ma.P6 s.glasses)->∀ v H',(∃ l,v=.ref l/\H' l=some (.lst ((am9 line b texts rk).map V.int)))->Q v H':=fun hg v H' h=>kk0 v H' (by rw [<-hout hg];exact h)
  obtain ⟨fI,names,xc,m1,m2⟩:=T.fx
  have hr1:=hr.mono (show 1<=14 by decide)
  have hr3:=hr.mono (show 3<=14 by decide)
  have hr4:=hr.mono (show 5<=14 by decide)
  have hr6:=hr.mono (show 6<=14 by decide)
  refine a0 _ (d5 (bE9 rfl rfl rfl (X7 rfl (by rfl) T.hN.m T.hN.c (bx1 (ts:=fun x od=>aV9 (bM9 (F8 (tUn (rU fun i=>.int (-i)) (tC (.int 3))) (F8 (bd9 x od (J9 6) "place") (F8 (bd9 x od (J9 6) "kind") am7))))) (i:=6) rfl rfl aq1.nd rfl rfl (by rfl) T.hF.m T.hF.c
    (X7 rfl (by rfl) T.hO.m T.hO.c (X7 rfl (by rfl) T.hP.m T.hP.c (X7 rfl (by rfl) T.hL.m T.hL.c bm5 (fun x=>d5 (i4 (B2 (b0 (al1 Z6 g7) c9)))))
     (fun x=>d5 (i4 (B2 (b0 (al1 Z6 g7) c9))))) (fun x=>d5 (i4 (B2 (b0 (al1 Z6 g7) c9)))))
    (fun x oe vs h1 h2=>d5 (i4 (B2 (b0 (al1 Z6 g7) (b0 (aS1 (x:=x) (oe:=oe) (List.mem_append_left _ (List.mem_singleton.mpr rfl)) h1 h2 xc m1 bk1 (pv 6) rfl) (b0 (aS1 (x:=x) (oe:=oe) (List.mem_append_left _ (List.mem_singleton.mpr rfl)) h1 h2 xc m2 bv3 (pv 6) rfl) c9)))))))
    (fun x=>d5 (i4 (B2 (b0 (al1 Z6 g7) c9)))))
   (fun xe pn E' ht hp=>c6 (i8 (d9 Ds hr1 ht.pass (b0 (pv 0) (b0 (pv 1) c9))))
    (c6 (aw5 (wi:=bB3 K (J9 2)) (i:=4) (own:=[("text",7)]) ht rfl rfl rfl rfl aq1.nd rfl rfl (az8 rfl rfl rfl rfl) (L4 (pv 2)) (ai0 (show bb0 ["line","t","texts","reckon","numbers","stations","fault","text"] (d7 X2) _ _=true by decide +kernel)) (fun _ _ _ _ _=>B6 (i:=7) aq1.nd rfl (Or.inl rfl)) (fun _ _ _ _ _=>ao1) (fun _ _ _ _ _ xe' pn' hp'=>d9 Dh hr4 hp' (b0 (pv 7) c9)))
    (c6 (h9 (i:=5) aq1.nd rfl (Or.inl rfl) (d9 Dt hr6 ht.pass (b0 (d9 Dr hr ht.pass (b0 (pv 1) c9)) (b0 (pv 0) c9))))
    (d5 (i4 (d9 Dl hr3 ht.pass (b0 (show PE _ _ (be4 prog w K mg base 14 3 E' (F8 (J9 5) (F8 (J9 4) am7))) from bi4 (i:=3) rfl (Or.inl rfl) hr ht.pass (b0 (pv 5) (b0 (pv 4) c9))) c9))))))))) ?_
  obtain ⟨px,vx,rfl,hxs,hxp⟩:=hx
  have out1:(∀ s,line<=2->b.length<=65536->M9 texts≠none->Ln.Text.read b=.ok s->Ma.P6 s.glasses)->∀ {l:Addr}{H':Hp}{n:Int},am9 line b texts rk=[n]->Q (.ref l) (upd H' l (.lst [.int n])):=fun hg {l H' n} e=>kk hg _ _ (a0 l rfl (by rw [c7,e];rfl))
  refine a0 _ rfl (a0 _ rfl (j0 G line a b rfl sm hb (fun hbad H'=>?_) (fun h1 h2=>?_)))
  ·refine d8 CN rfl T.hN.c ?_
   rw [if_pos rfl]
   intro σ
   refine d8 _ rfl (by show 1<=sizeLine;decide) (fun l hl=>out1 (fun s h1 h2 _ _=>absurd hbad (by omega)) ?_)
   unfold am9;rw [if_pos hbad]
  have hne:¬ (2 < line\/65536 < b.length):=by omega
  refine a0 _ rfl (d8 px rfl (j7 _ (sm.seq hxs)) (fun D hD=>aS6 (K:=K) (a:=px) (xs:=vx) (fun i Hc=>∃ (G1:Hp) (qs:List Rat) (ys:List V),Ext [] G H G1 Hc/\Own G1 Hc D (.lst ys)/\Paired (Fr K G1) ys qs/\ys.length=i/\M9 (texts.take i)=some qs)
   (u0 G ([]) ([]) ((Ext.refl sm).lend hD) ⟨c7,sm.free hD⟩ .nil rfl rfl) (fun i Hc _ ⟨G1,_,_,e,_⟩=>e.sub.seq (e.grow.seq hxs)) ?_ ?_))
  ·rintro i v Hc hv ⟨G1,qs,ys,e1,oD,hp,hl,hq⟩
   obtain ⟨c,hc,hcb⟩:=D6 hxp hv
   refine ⟨rfl,a0 _ rfl (j4 G1 v c rfl e1.sub (Bs.mono _ _ _ _ e1.grow hcb) ?_)⟩
   unfold bz0
   cases z:Ma.y2 c with
   | none =>
    intro H'
    refine d8 CN rfl T.hN.c ?_
    rw [if_pos rfl]
    intro σ
    refine d8 _ rfl (by show 1<=sizeLine;decide) (fun l hl=>out1 (fun s _ _ h _=>absurd (ac8 (List.mem_of_getElem? hc) z) h) ?_)
    unfold am9
    rw [if_neg hne,ac8 (List.mem_of_getElem? hc) z]
   | some q =>
    intro v' G2 H2 e2 hf
    have oD2:=oD.ext e2 (by simp)
    have hi:i < texts.length:=(List.getElem?_eq_some_iff.mp hc).1
    refine d8 ys oD2.at_ ?_ (u0 G2 (qs++[q]) (ys++[v']) ((e1.tr0 e2).put (.inl hD) oD2.fr) ⟨c7,oD2.fr⟩ (Paired.snoc (Paired.map' (fun _ _ z=>Fr.mono _ _ _ _ e2.grow z) hp) hf) (by rw [List.length_append,hl];rfl) ?_)
    ·rw [hl];exact Nat.lt_of_lt_of_le (Nat.lt_of_lt_of_le hi hn) (by decide)
    ·rw [List.take_add_one,hc];exact ay9 hq z
  ·rintro Hc ⟨G1,qs,ys,e1,oD,hp,hl,hq⟩
   have hvl:vx.length=texts.length:=ar2 hxp
   rw [hvl,List.take_length] at hq
   have hDn:H D=none:=hD
   have e2:=e1.freeze oD.at_ hDn
   generalize hG2:upd G1 D (.lst ys)=G2 at e2
   have gD:G2 D=some (.lst ys):=by rw [<-hG2];exact c7
   have g12:j6 G1 G2:=by rw [<-hG2];exact bh0 oD.fr
   obtain ⟨hql,hqs⟩:=aV1 hq
   have a1:∀ {X:List Int},(match M9 texts with | none=>[-1] | some qs=>match Ln.Text.read b with | .error e=>[-3,(e.2:Int),(e.1:Int)] | .ok s=>match rk (Ma.ac9 s line) qs with | .error true=>[-2] | .error false=>[-5] | .ok prs=>if (Ma.p9 prs).all tellable then Ma.E8 (Ma.p9 prs) else [-6])=X->am9 line b texts rk=X:=fun {X} h=>by
    unfold am9;rw [if_neg hne];exact h
   rw [hq] at a1
   refine a0 _ rfl (j4 G2 a b rfl e2.sub (Bs.mono _ _ _ _ e2.grow hb) ?_)
   unfold bM1
   cases hrd:Ln.Text.read b with
   | error er =>
    intro H' d hd
    refine d8 CF rfl T.hF.c ?_
    rw [if_neg (fun z=>T.nNF (Value.ref.inj z).symm),if_pos rfl]
    intro σ x hσ
    refine a0 _ rfl (d8 _ hσ rfl (j4 d _ _ rfl hd rfl (d8 _ hσ rfl (u0 d _ _ rfl hd rfl (by show 3<=sizeLine;decide) (fun l hl=>kk (fun s _ _ _ h=>by rw [hrd] at h;cases h) _ _ (a0 l rfl ?_))))))
    rw [c7,a1 (by rw [hrd])];rfl
   | ok sy =>
    intro v3 G3 H3 e3 hsys
    have hg:∀ s,line<=2->b.length<=65536->M9 texts≠none->Ln.Text.read b=.ok s->Ma.P6 s.glasses:=fun s _ _ _ h=>by rw [hrd] at h;cases h;exact hsys.ok
    refine a0 _ rfl (j0 G3 v3 sy line rfl e3.sub hsys (by omega) (fun v4 G4 H4 e4 hst=>?_))
    have e24:=e3.trans e4
    have e04:Ext [] G H G4 H4:=e2.trans e24
    refine Z2 fr Φ _ rfl C (a0 _ rfl (d8 _ rfl (hΦ _ _ e04) (m9 G4 v4 (.ref D) (Ma.ac9 sy line) qs ⟨rfl,e4.sub,hst,(g6 D ys rfl (.of (e24.grow _ _ gD)) (Paired.map' (fun _ _ z=>Fr.mono _ _ _ _ (g12.trans e24.grow) z) hp)),?_,hql,hqs,?_⟩)))
    ·show (Ma.j9 sy line 0 sy.count).length<=64
     unfold Ma.j9
     rw [List.length_map,List.length_range']
     exact hsys.le
    ·cases hk:rk (Ma.ac9 sy line) qs with
     | error eb =>
      cases eb with
      | true =>
       intro H'
       refine d8 CO rfl T.hO.c ?_
       rw [if_neg (fun z=>T.nNO (Value.ref.inj z).symm),if_neg (fun z=>T.nFO (Value.ref.inj z).symm),if_pos rfl]
       intro σ
       refine d8 _ rfl (by show 1<=sizeLine;decide) (fun l hl=>out1 hg (a1 ?_))
       rw [hrd]
       show (match rk (Ma.ac9 sy line) qs with | .error true=>[-2] | .error false=>[-5] | .ok prs=>if (Ma.p9 prs).all tellable then Ma.E8 (Ma.p9 prs) else [-6])=_
       rw [hk]
      | false =>
       intro H'
       refine d8 CP rfl T.hP.c ?_
       rw [if_neg (fun z=>T.nNP (Value.ref.inj z).symm),if_neg (fun z=>T.nFP (Value.ref.inj z).symm),if_neg (fun z=>T.nOP (Value.ref.inj z).symm),if_pos rfl]
       intro σ
       refine d8 _ rfl (by show 1<=sizeLine;decide) (fun l hl=>out1 hg (a1 ?_))
       rw [hrd]
       show (match rk (Ma.ac9 sy line) qs with | .error true=>[-2] | .error false=>[-5] | .ok prs=>if (Ma.p9 prs).all tellable then Ma.E8 (Ma.p9 prs) else [-6])=_
       rw [hk]
     | ok prs =>
      intro v5 G5 H5 e5 hpr
      obtain ⟨z1,z2⟩:=hrk _ _ _ hk
      refine G0 G5 v5 prs ⟨rfl,e5.sub,hpr,z1,z2,fun ha H'=>?_,fun ha v6 G6 H6 e6 hv6=>?_⟩
      ·refine d8 CL rfl T.hL.c ?_
       rw [if_neg (fun z=>T.nNL (Value.ref.inj z).symm),if_neg (fun z=>T.nFL (Value.ref.inj z).symm),if_neg (fun z=>T.nOL (Value.ref.inj z).symm),if_neg (fun z=>T.nPL (Value.ref.inj z).symm),if_pos rfl]
       intro σ
       refine d8 _ rfl (by show 1<=sizeLine;decide) (fun l hl=>out1 hg (a1 ?_))
       rw [hrd]
       show (match rk (Ma.ac9 sy line) qs with | .error true=>[-2] | .error false=>[-5] | .ok prs=>if (Ma.p9 prs).all tellable then Ma.E8 (Ma.p9 prs) else [-6])=_
       rw [hk]
       show (if (Ma.p9 prs).all tellable then Ma.E8 (Ma.p9 prs) else [-6])=_
       rw [if_neg (by rw [ha];decide)]
      ·obtain ⟨l,rfl,hl⟩:=hv6
       refine kk hg _ _ (a0 l rfl ?_)
       rw [e6.sub _ _ hl,a1]
       rw [hrd]
       show (match rk (Ma.ac9 sy line) qs with | .error true=>[-2] | .error false=>[-5] | .ok prs=>if (Ma.p9 prs).all tellable then Ma.E8 (Ma.p9 prs) else [-6])=_
       rw [hk]
       show (if (Ma.p9 prs).all tellable then Ma.E8 (Ma.p9 prs) else [-6])=_
       rw [if_pos ha]
end
end Th
set_option maxHeartbeats 2000000
namespace Th
open PySem PySem.Spec PyProof.Rows L2
open Ma (Stn A4 Sz B)
section
variable {w:World}{K:W.Frag}{mg:Str->Option Value}{base:Heap}{CT CP:Addr}
theorem aa5:∀ l:List Int,Paired (fun a b=>a=V.int b) (l.map V.int) l
 | []=>.nil
 | _::l=>.cons rfl (aa5 l)
def bA2 (K:W.Frag):Sp:=fun vs H Q _=>∃ (G:Hp) (a:V) (l:List Int) (N s:Int) (n m:Nat),vs=[a,.int N,.int s]/\j6 G H/\IL G a l/\B n N/\B m s/\4*n+m<=60000000/\∀ v G' H',Ext [] G H G' H'->aK3 K G' v (l.zip (Ma.ak5 N s))->Q v H'
theorem aM2:g9 ["numbers","lengths","scale","second","bottoms"] ["numbers","lengths","scale"] (d7 ae1):=⟨rfl,rfl,rfl,by decide +kernel,rfl,by decide +kernel,by decide +kernel⟩
theorem bI8 {f:Addr}{fd:FuncData}(F:Fun K "as_pairs" "as_pairs" ae1 f fd)(Z:Tpz K mg CP):l6 prog w K mg base (cxX prog w) 1 f fd ["numbers","lengths","scale"] (bA2 K):=by
 refine F.okX aM2 (fun vs H Q E h=>?_) (fun cdv A outer s H vs Q E hr h=>?_)
 ·obtain ⟨G,a,l,N,s,n,m,rfl,_⟩:=h;rfl
 ·obtain ⟨G,_,l,N,sc,n,m,rfl,sm,⟨la,rfl,gl⟩,bN,bs,hbd,kk⟩:=h
  refine a0 _ (c6 (h9 (i:=3) aM2.nd rfl (Or.inl rfl) (i6 i7 (pv 1) (pv 1)))
   (c6 (h9 (i:=4) aM2.nd rfl (Or.inl rfl) (i6 aM9 (i6 bi8 (B2 (b0 (i6 i7 (i6 i7 (pv 3) (pv 3)) (pv 2)) c9)) g7) (i6 bi8 (B2 (b0 (i6 i7 (pv 3) (pv 2)) c9)) g7)))
   (d5 (i4 (aq8 rfl (by rfl) Z.list_ (by rfl) Z.zip_ (b0 (pv 0) (b0 (pv 4) c9))))))) ?_
  have b2:=bN.mul bN
  have b4:=b2.mul b2
  refine a0 _ rfl (a0 _ rfl (i5 _ _ rfl rfl ⟨bN.mono (by omega),bN.mono (by omega)⟩ ?_))
  refine a0 _ rfl (a0 _ rfl (i5 _ _ rfl rfl ⟨b2.mono (by omega),b2.mono (by omega)⟩ (a0 _ rfl (C6 _ _ rfl rfl ⟨b4.mono (by omega),bs.mono (by omega)⟩ (by show 1<=sizeLine;decide) (fun p1 h1=>?_)))))
  have e1:Ext [] G H _ _:=(Ext.refl sm).lay h1 (o:=.lst [.int (N*N*(N*N)*sc)])
  generalize hx1:(N*N*(N*N)*sc:Int)=x1 at e1
  generalize hx2:(N*N*sc:Int)=x2
  refine G0 p1 5 _ ⟨rfl,rfl,c7,(by decide),(by decide),(by show 1*5<=sizeLine;decide),fun p2 h2=>?_⟩
  have h2':upd H p1 (.lst [.int x1]) p2=none:=by rw [<-hx1];exact h2
  have e2:=e1.lay h2' (o:=.lst [.int x1,.int x1,.int x1,.int x1,.int x1])
  refine a0 _ rfl (a0 _ rfl (C6 _ _ rfl rfl ⟨b2.mono (by omega),bs.mono (by omega)⟩ (by show 1<=sizeLine;decide) (fun p3 h3=>?_)))
  have h3':upd (upd H p1 (.lst [.int x1])) p2 (.lst [.int x1,.int x1,.int x1,.int x1,.int x1]) p3=none:=by rw [<-hx1];exact h3
  have e3:=e2.lay h3' (o:=.lst [.int x2])
  refine G0 p3 2 _ ⟨rfl,rfl,c7,(by decide),(by decide),(by show 1*2<=sizeLine;decide),fun p4 h4=>?_⟩
  have h4':upd (upd (upd H p1 (.lst [.int x1])) p2 (.lst [.int x1,.int x1,.int x1,.int x1,.int x1])) p3 (.lst [.int x2]) p4=none:=by rw [<-hx1,<-hx2];exact h4
  have e4:=e3.lay h4' (o:=.lst [.int x2,.int x2])
  have n23:p2≠p3:=i0 (c7 (H:=upd H p1 (.lst [.int x1])) (a:=p2)) h3'
  have n24:p2≠p4:=i0 (o:=.lst [.int x1,.int x1,.int x1,.int x1,.int x1]) (by rw [d6 n23,c7]) h4'
  have q2:upd (upd (upd (upd H p1 (.lst [.int x1])) p2 (.lst [.int x1,.int x1,.int x1,.int x1,.int x1])) p3 (.lst [.int x2])) p4 (.lst [.int x2,.int x2]) p2=some (.lst [.int x1,.int x1,.int x1,.int x1,.int x1]):=by
   rw [d6 n24,d6 n23,c7]
  refine l0 p2 p4 ([.int x1,.int x1,.int x1,.int x1,.int x1]) ([.int x2,.int x2]) rfl rfl (by subst hx1 hx2;exact q2) (by subst hx1 hx2;exact c7) (by show 7<=sizeLine;decide) (fun p5 h5=>?_)
  have h5':upd (upd (upd (upd H p1 (.lst [.int x1])) p2 (.lst [.int x1,.int x1,.int x1,.int x1,.int x1])) p3 (.lst [.int x2])) p4 (.lst [.int x2,.int x2]) p5=none:=by rw [<-hx1,<-hx2];exact h5
  have e5:=e4.lay h5' (o:=.lst [.int x1,.int x1,.int x1,.int x1,.int x1,.int x2,.int x2])
  have ha:SqL K (upd (upd (upd (upd (upd H p1 (.lst [.int x1])) p2 (.lst [.int x1,.int x1,.int x1,.int x1,.int x1])) p3 (.lst [.int x2])) p4 (.lst [.int x2,.int x2])) p5 (.lst [.int x1,.int x1,.int x1,.int x1,.int x1,.int x2,.int x2])) la (l.map V.int):=.of (e5.sub _ _ (e5.grow _ _ gl))
  have hbt:Ma.ak5 N sc=[x1,x1,x1,x1,x1,x2,x2]:=by unfold Ma.ak5;rw [hx1,hx2]
  rw [hbt] at kk
  subst hx1 hx2
  refine a0 _ rfl (a0 _ rfl (l7 la p5 _ _ rfl ha (.of c7) (fun l' hl'=>aP5 e5.sub hl' fun G6 H6 Ts e6 hg hpT=>?_)))
  refine kk _ _ _ (e5.trans e6) (g6 l' _ rfl (.of hg) (ae3 ?_))
  have q3:Paired (fun (a:V×V) (b:Int×Int)=>a=(.int b.1,.int b.2)) ((l.map V.int).zip [.int (N*N*(N*N)*sc),.int (N*N*(N*N)*sc),.int (N*N*(N*N)*sc),.int (N*N*(N*N)*sc),.int (N*N*(N*N)*sc),.int (N*N*sc),.int (N*N*sc)]) (l.zip [N*N*(N*N)*sc,N*N*(N*N)*sc,N*N*(N*N)*sc,N*N*(N*N)*sc,N*N*(N*N)*sc,N*N*sc,N*N*sc]) :=
   ar1 (R:=fun a b=>a=V.int b) (S:=fun a b=>a=V.int b) (fun a b c d h1 h2=>by rw [h1,h2]) (aa5 l) (aa5 [N*N*(N*N)*sc,N*N*(N*N)*sc,N*N*(N*N)*sc,N*N*(N*N)*sc,N*N*(N*N)*sc,N*N*sc,N*N*sc])
  exact al3 (fun T p b h1 h2=>⟨T,rfl,.of (by rw [h1,h2])⟩) hpT q3
end
end Th
set_option maxHeartbeats 2000000
namespace Th
open PySem PySem.Spec PyProof.Rows L2
open Ma (Stn A4 Sz B)
theorem ak1:∀ (l:List Stn) (n:Nat) (h a:Int),(∀ t∈l,A4 t)->B n h->B n a->∀ pr∈Ma.B0 l h a,B (n+263*l.length) pr.1/\B (n+263*l.length) pr.2
 | [],_,_,_,_,_,_,pr,hpr=>nomatch hpr
 | t::l,n,h,a,ok,hh,ha,pr,hpr=>by
  obtain ⟨b1,b2,b3⟩:=Ma.bk7 (ok t List.mem_cons_self) hh ha
  have hpr:pr∈(h+t.walk.num*a / t.walk.den,a+t.before.num*(h+t.walk.num*a / t.walk.den) / t.before.den)::Ma.B0 l (h+t.walk.num*a / t.walk.den) (a+t.before.num*(h+t.walk.num*a / t.walk.den) / t.before.den - t.behind.num*(h+t.walk.num*a / t.walk.den) / t.behind.den):=hpr
  rcases List.mem_cons.mp hpr with e | e
  ·rw [e,List.length_cons]
   exact ⟨b1.mono (by omega),b2.mono (by omega)⟩
  ·have:=ak1 l (n+263) _ _ (fun z hz=>ok z (List.mem_cons_of_mem _ hz)) (b1.mono (by omega)) b3 pr e
   refine ⟨this.1.mono ?_,this.2.mono ?_⟩<;>(rw [List.length_cons];omega)
theorem bv6 {ts:List Stn}{N:Int}{y v z u:Rat}{n:Nat}(ok:∀ t∈ts,A4 t)(hs:∀ q∈[y,v,z,u],Sz 1000 q)(hN:B n N):∀ mc∈Ma.al7 ts N y v z u,(B (1000+n+263*ts.length) mc.1.1/\B (1000+n+263*ts.length) mc.1.2)/\B (1000+n+263*ts.length) mc.2.1/\B (1000+n+263*ts.length) mc.2.2:=by
 intro mc h
 obtain ⟨m,c⟩:=mc
 have h:=List.of_mem_zip h
 exact ⟨ak1 ts _ _ _ ok (al5 (hs y (by simp)) hN) (al5 (hs v (by simp)) hN) m h.1,ak1 ts _ _ _ ok (al5 (hs z (by simp)) hN) (al5 (hs u (by simp)) hN) c h.2⟩
theorem aY7 (ts:List Stn)(N:Int)(y v z u:Rat):(Ma.al7 ts N y v z u).length=ts.length:=by
 unfold Ma.al7
 rw [List.length_zip,Q8,Q8,Nat.min_self]
end Th
set_option maxHeartbeats 2000000
namespace Th
open PySem PySem.Spec PyProof.Rows L2
open Ln (Bytes System_)
open Ma (Stn A4 Sz B)
theorem by6 {N s:Int}(hN:N≠0)(hs:s≠0)(l:List Int):(∀ pr∈l.zip (Ma.ak5 N s),pr.2≠0)/\(l.zip (Ma.ak5 N s)).length<=100:=by
 have h2:N*N≠0:=Int.mul_ne_zero hN hN
 have h4:N*N*(N*N)≠0:=Int.mul_ne_zero h2 h2
 have a1:N*N*(N*N)*s≠0:=Int.mul_ne_zero h4 hs
 have a2:N*N*s≠0:=Int.mul_ne_zero h2 hs
 refine ⟨fun pr hpr=>?_,?_⟩
 ·have:=(List.of_mem_zip (show (pr.1,pr.2)∈_ from hpr)).2
  simp only [Ma.ak5,List.mem_cons,List.not_mem_nil,or_false] at this
  rcases this with h | h | h | h | h | h | h<;>rw [h]<;>assumption
 ·rw [List.length_zip]
  exact Nat.le_trans (Nat.min_le_right _ _) (show 7<=100 by decide)
end Th
set_option maxHeartbeats 1000000
namespace Th
open PySem PySem.Spec PyProof.Rows L2
open Ln (Bytes System_)
open Ma (Stn A4 Sz B)
def av9 (ts:List Stn)(y v z u:Rat)(i:Nat):Except Bool (List (Int×Int)):=match ts[i]? with
 | none=>.error true
 | some t=>match (Ma.al7 (ts.take (i+1)) (Ma.K7 (ts.take (i+1)) [y,v,z,u]) y v z u)[i]? with
  | none=>.ok []
  | some mc=>match Ma.ag2 t mc.1 mc.2 with
   | none=>.error false
   | some l=>.ok (l.zip (Ma.ak5 (Ma.K7 (ts.take (i+1)) [y,v,z,u]) ((Ma.C7 t:Nat):Int)))
section
variable {w:World}{K:W.Frag}{mg:Str->Option Value}{base:Heap}{CT CP CO:Addr}
structure Ti (K:W.Frag)(mg:Str->Option Value)(CO:Addr):Prop where
 len_:mg "len"=none
 ne_:XC K mg "NoElement" CO
def aL6 (K:W.Frag)(CT CP CO:Addr):Sp:=fun vs H Q E=>∃ (G:Hp) (a r:V) (ts:List Stn) (y v z u:Rat) (i:Nat),vs=[a,r,.int (i:Int)]/\j6 G H/\aK2 K CT G a ts/\Ls K (Fr K) G r [y,v,z,u]/\(∀ q∈[y,v,z,u],Sz 60 q)/\ts.length<=64 /\
 match av9 ts y v z u i with
 | .ok prs=>∀ x G' H',Ext [] G H G' H'->aK3 K G' x prs->Q x H'
 | .error true=>∀ H',E (.ref CO) none H'
 | .error false=>∀ H',E (.ref CP) none H'
theorem al2 {α β:Type}{R:α->β->Prop}:∀ {xs:List α}{ys:List β} (n:Nat),Paired R xs ys->Paired R (xs.take n) (ys.take n)
 | _,_,0,_=>.nil
 | _,_,_+1,.nil=>.nil
 | _,_,n+1,.cons h t=>.cons h (al2 n t)
theorem bo0 (xs:List V)(i:Nat)(h:i < xs.length):Q0 xs none (some ((i:Int)+1))=xs.take (i+1):=by
 unfold Q0
 rw [show ((i:Int)+1)=((i+1:Nat):Int) from rfl,HT.sIx_none,HT.sIx_nat,Nat.min_eq_left (by omega)]
 rfl
theorem aA7:g9 ["stations","rays","i","reached","lengths","at"] ["stations","rays","i"] (d7 R7):=⟨rfl,rfl,rfl,by decide +kernel,rfl,by decide +kernel,by decide +kernel⟩
theorem bG7 {f:Addr}{fd:FuncData}(F:Fun K "single_part" "single_part" R7 f fd)(T:Ti K mg CO)(Dl:Def prog w K mg base 1 "length_scale" ["stations","rays"] (bA0 K CT))(Dm:Def prog w K mg base 2 "meetings_of" ["stations","lengths","rays"] (bf8 K CT))(Dp:Def prog w K mg base 5 "part_of" ["station","marginal","chief"] (bf7 K CT CP))
  (Ds:Def prog w K mg base 3 "station_scale" ["station"] (bf5 K CT)) (Dq:Def prog w K mg base 1 "as_pairs" ["numbers","lengths","scale"] (bA2 K)) :
  l6 prog w K mg base (cxX prog w) 6 f fd ["stations","rays","i"] (aL6 K CT CP CO):=by
 refine F.okX aA7 (fun vs H Q E h=>?_) (fun cdv A outer s H vs Q E hr h=>?_)
 ·obtain ⟨G,a,r,ts,y,v,z,u,i,rfl,_⟩:=h;rfl
 ·obtain ⟨G,_,r,ts,y,v,z,u,i,rfl,sm,⟨LS,ss,rfl,hLS,hpS⟩,hrs,hsz0,hlen,kk⟩:=h
  have hr1:=hr.mono (show 1<=5 by decide)
  have hr2:=hr.mono (show 2<=5 by decide)
  have hr3:=hr.mono (show 3<=5 by decide)
  refine a0 _ (c6 (q0 (j5 bi9 (pv 2) (w8 w9 (by rfl) T.len_ boot_len (b0 (pv 0) c9)) (j8 _)) (d5 (D4 L9 rfl (by rfl) T.ne_.m T.ne_.c)) j3)
   (c6 (h9 (i:=3) aA7.nd rfl (Or.inl rfl) (E9 L0 (pv 0) X4 (D5 (i6 J3 (pv 2) g7))))
   (c6 (h9 (i:=4) aA7.nd rfl (Or.inl rfl) (d9 Dl hr1 d4 (b0 (pv 3) (b0 (pv 1) c9))))
   (c6 (h9 (i:=5) aA7.nd rfl (Or.inl rfl) (m7 A9 (d9 Dm hr2 d4 (b0 (pv 3) (b0 (pv 4) (b0 (pv 1) c9)))) (pv 2) (fun _ _=>rfl)))
   (d5 (i4 (d9 Dq hr1 d4 (b0 (d9 Dp hr d4 (b0 (m7 A9 (pv 0) (pv 2) (fun _ _=>rfl)) (b0 (m7 o8 (pv 5) g7 (fun _ _=>rfl)) (b0 (m7 o8 (pv 5) g7 (fun _ _=>rfl)) c9)))) (b0 (pv 4) (b0 (d9 Ds hr3 d4 (b0 (m7 A9 (pv 0) (pv 2) (fun _ _=>rfl)) c9)) c9)))))))))) ?_
  have hlS:ss.length=ts.length:=Paired.length hpS
  have lS:=sm _ _ hLS
  unfold av9 at kk
  refine a0 _ rfl (a0 _ rfl (g6 LS _ rfl (.inl (.of lS)) (g6 _ _ rfl rfl (a0 _ rfl (y4 (fun h1=>?_) (fun h1=>?_))))))
  ·rw [List.getElem?_eq_none (by rw [hlS] at h1;omega)] at kk
   exact kk _
  have hi:i < ts.length:=by rw [hlS] at h1;omega
  have hiS:i < ss.length:=by omega
  obtain ⟨t,ht⟩:∃ t,ts[i]?=some t:=(j7 _ (List.getElem?_eq_getElem hi))
  rw [ht] at kk
  dsimp only at kk
  obtain ⟨x,hx⟩:∃ x,ss[i]?=some x:=(j7 _ (List.getElem?_eq_getElem hiS))
  have hst:ak6 K CT G x t:=by
   obtain ⟨t',ht',h⟩:=D6 hpS hx
   rw [ht] at ht';cases ht';exact h
  have hok:=bo6 hpS
  have okt:=hok t (List.mem_of_getElem? ht)
  have hokT:∀ t∈ts.take (i+1),A4 t:=fun t h=>hok t (List.mem_of_mem_take h)
  have hsz:∀ q∈[y,v,z,u],Sz 1000 q:=fun q hq=>(hsz0 q hq).mono (by decide)
  have hlT:(ts.take (i+1)).length=i+1:=by rw [List.length_take];omega
  have hml:=aY7 (ts.take (i+1)) (Ma.K7 (ts.take (i+1)) [y,v,z,u]) y v z u
  have bN:B 30000 (Ma.K7 (ts.take (i+1)) [y,v,z,u]):=(Ma.bJ5 (ts.take (i+1)) [y,v,z,u] 1000 hokT hsz).mono (by show 2+1000*4+390*(ts.take (i+1)).length<=30000;omega)
  have hmB:=bv6 (ts:=ts.take (i+1)) (N:=Ma.K7 (ts.take (i+1)) [y,v,z,u]) hokT hsz bN
  refine a0 _ rfl (a0 _ rfl (g6 _ _ rfl rfl (a0 _ rfl (g6 LS _ rfl (.of lS) (fun l1 hl1=>?_)))))
  rw [bo0 ss i hiS]
  have e1:Ext [] G H (upd G l1 (.lst (ss.take (i+1)))) (upd H l1 (.lst (ss.take (i+1)))):=(Ext.refl sm).lay hl1
  have g1l:(upd G l1 (.lst (ss.take (i+1)))) l1=some (.lst (ss.take (i+1))):=c7
  generalize upd G l1 (.lst (ss.take (i+1)))=G1 at e1 g1l
  generalize upd H l1 (.lst (ss.take (i+1)))=H1 at e1
  have hre:aP2 K CT G1 (.ref l1) (ts.take (i+1)):=(g6 l1 _ rfl (.of g1l) (al2 _ (Paired.map' (fun _ _ h=>h.mono e1.grow) hpS)))
  have hrs1:Ls K (Fr K) G1 r [y,v,z,u]:=by
   obtain ⟨LR,rs,rfl,hLR,hpR⟩:=hrs
   exact g6 LR rs rfl (e1.grow.seq hLR) (Paired.map' (fun _ _ h=>Fr.mono _ _ _ _ e1.grow h) hpR)
  refine a0 _ rfl (a0 _ rfl (j7 G1 (K1 (.ref l1) r (ts.take (i+1)) ([y,v,z,u]) 1000 rfl e1.sub hre hrs1 hsz (by show 1000*4+390*((ts.take (i+1)).length+1)+10<=60000000;omega) ?_)))
  generalize hN:Ma.K7 (ts.take (i+1)) [y,v,z,u]=N at *
  refine a0 _ rfl (a0 _ rfl (a0 _ rfl (m9 G1 (.ref l1) r N (ts.take (i+1)) (m9 y v z u 30000 ⟨rfl,e1.sub,hre,hrs1,hsz,bN,(by omega),(by omega),fun xm G2 H2 e2 hm=>?_⟩))))
  obtain ⟨LM,ms,rfl,gM,hpM⟩:=hm
  obtain ⟨mc,hmc⟩:∃ mc,(Ma.al7 (ts.take (i+1)) N y v z u)[i]?=some mc:=(j7 _ (List.getElem?_eq_getElem (by rw [hml,hlT];omega)))
  rw [hmc] at kk
  dsimp only at kk
  have hmsl:ms.length=i+1:=by rw [Paired.length hpM,hml,hlT]
  obtain ⟨xa,hxa⟩:∃ xa,ms[i]?=some xa:=(j7 _ (List.getElem?_eq_getElem (by omega)))
  obtain ⟨mc',hmc',t4,vm,vc,rfl,h4,hm1,hc1⟩:=D6 hpM hxa
  rw [hmc] at hmc';cases hmc'
  have e02:=e1.trans e2
  have lS2:SqL K H2 LS ss:=.of (e02.sub _ _ (e02.grow _ _ hLS))
  refine a0 _ rfl (j0 LM _ _ _ rfl rfl (.of (e2.sub _ _ gM)) (ai2 hxa) ?_)
  obtain ⟨⟨m1,m2⟩,m3,m4⟩:=hmB mc (List.mem_of_getElem? hmc)
  have h44:=e2.sub.seqT h4
  refine a0 _ rfl (a0 _ rfl (j0 LS _ _ _ rfl rfl lS2 (ai2 hx) (a0 _ rfl (j0 t4 _ _ _ rfl rfl h44 rfl (a0 _ rfl (j0 t4 _ _ _ rfl rfl h44 rfl (m9 G2 x vm vc t (G0 mc.1 mc.2 60000 ⟨rfl,e2.sub,hst.mono e02.grow,hm1,hc1,m1.mono (by omega),m2.mono (by omega),m3.mono (by omega),m4.mono (by omega),(by decide),?_⟩))))))))
  cases hpi:Ma.ag2 t mc.1 mc.2 with
  | none=>rw [hpi] at kk;exact kk
  | some p =>
   rw [hpi] at kk
   dsimp only at kk
   intro vp G3 H3 e3 hil
   have e03:=e02.trans e3
   have lS3:SqL K H3 LS ss:=.of (e03.sub _ _ (e03.grow _ _ hLS))
   refine a0 _ rfl (a0 _ rfl (a0 _ rfl (j0 LS _ _ _ rfl rfl lS3 (ai2 hx) (j4 G3 x t rfl e3.sub (hst.mono e03.grow) (fun G4 H4 e4=>?_)))))
   refine Z3 G4 vp (K1 p N _ 30000 1601 rfl e4.sub (IL.mono e4.grow _ _ hil) bN (Ma.bg2 t okt) (by decide) (fun xr G5 H5 e5 hp=>?_))
   exact kk _ _ _ ((e03.trans e4).trans e5) hp
end
end Th
set_option maxHeartbeats 2000000
namespace Th
open PySem PySem.Spec PySem.W PyProof.Rows L2
open Ln (Bytes System_ Near Sums)
open Ln.Num (tellable)
open Ma (Stn A4 Sz B)
def rkI (i:Nat)(ts:List Stn)(qs:List Rat):Except Bool (List (Int×Int)):=match qs with
 | [y,v,z,u]=>av9 ts y v z u i
 | _=>.ok []
theorem bE7 (i:Nat)(ts:List Stn)(qs:List Rat)(prs:List (Int×Int))(h:rkI i ts qs=.ok prs):(∀ pr∈prs,pr.2≠0)/\prs.length<=100:=by
 unfold rkI at h
 split at h
 ·unfold av9 at h
  split at h
  ·cases h
  ·rename_i t _
   split at h
   ·cases h
    exact ⟨fun pr hpr=>(nomatch hpr),by decide⟩
   ·split at h
    ·cases h
    ·cases h
     refine by6 (Int.ne_of_gt (Ma.aH7 _ _)) ?_ _
     have:=Ma.aR1 t
     omega
 ·cases h
  exact ⟨fun pr hpr=>(nomatch hpr),by decide⟩
section
variable {w:World}{K:W.Frag}{mg:Str->Option Value}{base:Heap}{CT CP CO:Addr}
theorem bj8 {G:Hp}{ci:Addr}{o:Obj}(hg:∀ u,G ci=some u->u=czO ci o){v:V}{ts:List Stn}(h:aK2 K CT G v ts):aK2 K CT (F0 G ci) v ts:=by
 obtain ⟨L,vs,e,h,hp⟩:=h
 refine g6 L vs e (by rw [m8 (fun z=>by rw [z] at h;cases hg _ h)];exact h) (Paired.map' (fun v t h=>?_) hp)
 obtain ⟨⟨x,dx,vw,vb,vh,vs,vd,vc,vl,rfl,hx,f1,f2,f3,f4,f5,f6,f7⟩,ok⟩:=h
 exact ⟨(m9 x dx vw vb vh (R3 vs vd vc vl ⟨rfl,by rw [m8 (fun z=>by rw [z] at hx;cases hg _ hx)];exact hx,Q7 hg f1,Q7 hg f2,Q7 hg f3,Q7 hg f4,Q7 hg f5,Q7 hg f6,Q7 hg f7⟩)),ok⟩
theorem aK3.mono {G G':Hp}(s:j6 G G'){v:V}{prs:List (Int×Int)}(h:aK3 K G v prs):aK3 K G' v prs:=by
 obtain ⟨L,vs,e,h,hp⟩:=h
 exact g6 L vs e (s.seq h) (Paired.map' (fun _ _ z=>by obtain ⟨t,e,h⟩:=z;exact (a0 t e (s.seqT h))) hp)
def bq3 (Pt:Addr)(K:W.Frag):Sp:=fun vs H Q _=>∃ (G:Hp) (line i:Nat) (a y v z u:V) (b by_ bv bz bu:Bytes) (out:List Int),vs=[.int (line:Int),.int (i:Int),a,y,v,z,u]/\H Pt=some (.tbl #[])/\G Pt=none/\j6 G H/\Bs K G a b/\Bs K G y by_/\Bs K G v bv/\Bs K G z bz/\Bs K G u bu /\
 ((∀ s,line<=2->b.length<=65536->M9 [by_,bv,bz,bu]≠none->Ln.Text.read b=.ok s->Ma.P6 s.glasses)->am9 line b [by_,bv,bz,bu] (rkI i)=out)/\∀ x H',(∃ l,x=.ref l/\H' l=some (.lst (out.map V.int)))->Q x H'
theorem bE1:at8 ["stations","rays","i"] ["stations","rays"] "i" (as1 W7):=⟨rfl,rfl,rfl,by decide +kernel,rfl,by decide +kernel,rfl,by decide +kernel,fun y hy=>by
 have h:=PySem.mem_of_lookup hy
 have key:∀ z∈(as1 W7).names,z.2=.free->z.1="i":=by decide +kernel
 exact key _ h rfl⟩
theorem bO5:g9 ["line","i","t","y","v","z","w"] ["line","i","t","y","v","z","w"] (d7 W7):=⟨rfl,rfl,rfl,by decide +kernel,rfl,by decide +kernel,by decide +kernel⟩
theorem by4 {fl cl ci:Addr}{qual:Str}{pm ctv uv:Value}{i:Nat}{o:Obj}(hod:o.data=.cell (some uv))(ruv:t9 (.int (i:Int)) uv)(Dz:Def prog w K mg base 6 "single_part" ["stations","rays","i"] (aL6 K CT CP CO)):Cal prog w K mg base 14 fl (fun H=>H fl=some (fnO fl (W.kla_obj "<lambda>" qual (bw0 W7) (bv9 W7) (as1 W7) [("i",ci)] pm cl ctv))/\H cl=some (cdO cl qual)/\H ci=some (czO ci o)) (bN6 K CT CO CP 4 (rkI i)):=by
 refine (bo1 (k:=6) bE1 hod ruv (fun vs H Q E h=>?_) (fun us hl=>match us,hl with | [_,_],_=>rfl) (fun A outer s H vs Q E hr hzc h=>?_)).mono (by decide)
 ·obtain ⟨G,a,r,ts,qs,rfl,_⟩:=h;rfl
 ·obtain ⟨G,a,r,ts,qs,rfl,sm,hst,hrs,hl,hq,hsz,kk⟩:=h
  match qs,hq with
  | [y,v,z,u],_ =>
   refine a0 _ (d9 Dz hr bs7 (b0 (pv 0) (b0 (pv 1) (b0 (pv 2) c9)))) ?_
   have hg:∀ w,G ci=some w->w=czO ci o:=fun w e=>by
    have:=sm _ _ e
    rw [hzc] at this
    exact (Option.some.inj this).symm
   have sm0:j6 (F0 G ci) (F0 H ci):=fun b w e=>by
    have hb:b≠ci:=fun z=>by rw [z,X5] at e;cases e
    rw [m8 hb] at e ⊢
    exact sm _ _ e
   refine a0 _ rfl (a0 _ rfl (a0 _ rfl (R3 (F0 G ci) a r ts (K1 y v z u i rfl sm0 (bj8 hg hst) (bu9 hg hrs) hsz hl ?_))))
   unfold rkI at kk
   dsimp only at kk
   cases hS:av9 ts y v z u i with
   | error b =>
    rw [hS] at kk
    cases b with
    | true=>exact fun H' _=>kk _
    | false=>exact fun H' _=>kk _
   | ok prs =>
    rw [hS] at kk
    intro x G' H' e6 hp n
    obtain ⟨q1,q2⟩:=bh6 sm hzc e6 n
    exact kk _ _ _ q2 (hp.mono q1)
theorem bP8 {f cm Pt:Addr}{fd:FuncData}(F:bz2 K "part" "part" W7 f fd cm)(hC:aC8 K cm Pt=true)(Da:Def prog w K mg base 15 "answered" ["line","t","texts","reckon"] (bA3 w K mg base 14 CT CO CP))(Dz:Def prog w K mg base 6 "single_part" ["stations","rays","i"] (aL6 K CT CP CO)) :
  l6 prog w K mg base (cxX prog w) 16 f fd ["line","i","t","y","v","z","w"] (bq3 Pt K):=by
 refine F.okX bO5 (fun vs H Q E h=>?_) (fun A outer s H vs Q E hr h=>?_)
 ·obtain ⟨G,line,i,a,y,v,z,u,b,by_,bv,bz,bu,out,rfl,_⟩:=h;rfl
 ·obtain ⟨G,line,i,a,y,v,z,u,b,by_,bv,bz,bu,out,rfl,hT,hG,sm,ha,hy,hv,hz,hu,ho,kk⟩:=h
  refine a0 _ (d5 (i4 (bs5 (ci:=s.heap.objs.size+1) (i:=1) (y:="i") Da hr d4 rfl rfl rfl rfl (b0 (pv 0) (b0 (pv 2) (b0 (B2 (b0 (pv 3) (b0 (pv 4) (b0 (pv 5) (b0 (pv 6) c9))))) (b0 (bF4 (clos:=[("i",s.heap.objs.size+1)]) rfl rfl rfl hC) c9))))))) ?_
  generalize s.heap.objs.size+1=ci
  refine a0 _ rfl (a0 _ rfl (a0 _ rfl (a0 _ rfl (a0 _ rfl (d8 _ rfl (by show 4<=sizeLine;decide) (fun l hl=>?_))))))
  have nlP:Pt≠l:=i0 hT hl
  refine I0 (#[]) (by rw [d6 nlP];exact hT) trivial rfl (fun fl cl pm ctv hf hc nfc=>(a0 (.int (i:Int)) rfl (fun o uv hod ruv hci=>?_)))
  have e1:Ext [] G H (upd G l (.lst [y,v,z,u])) (upd H l (.lst [y,v,z,u])):=(Ext.refl sm).lay hl (o:=.lst [y,v,z,u])
  have g1:=e1.grow
  have s1:=e1.sub
  have h1P:(upd G l (.lst [y,v,z,u])) Pt=none:=by rw [d6 nlP];exact hG
  have h1l:(upd G l (.lst [y,v,z,u])) l=some (.lst [y,v,z,u]):=c7
  have h2P:(upd H l (.lst [y,v,z,u])) Pt=some (.tbl #[]):=by rw [d6 nlP];exact hT
  generalize upd G l (.lst [y,v,z,u])=G1 at *
  generalize upd H l (.lst [y,v,z,u])=H1 at *
  have nPf:Pt≠fl:=i0 h2P hf
  have nPc:Pt≠cl:=i0 h2P hc
  have m:=fun (x:V) (c:Bytes) (h:Bs K G x c)=>Bs.mono _ _ _ _ g1 h
  have nf:fl≠ci:=fun z=>by rw [<-z,c7] at hci;cases hci
  have nc:cl≠ci:=fun z=>by rw [<-z,d6 (fun q=>nfc q.symm),c7] at hci;cases hci
  refine m9 G1 line a (.ref l) b (m9 ([by_,bv,bz,bu]) fl _ (rkI i) out ⟨rfl,fun p o' e=>?_,m _ _ ha,(g6 l _ rfl (.of h1l) (.cons (m _ _ hy) (.cons (m _ _ hv) (.cons (m _ _ hz) (.cons (m _ _ hu) .nil))))),(by show 4<=10;decide),by4 (qual:=("part" : Str)++".<locals>."++"<lambda>") (pm:=pm) (ctv:=ctv) (cl:=cl) hod ruv Dz,fun G' H' e=>⟨e.same _ _ ?_,e.same _ _ ?_,e.same _ _ c7⟩,bE7 i,ho,fun x H2 hx h2=>?_⟩)
  ·have nP:p≠Pt:=fun z=>by rw [z,h1P] at e;cases e
   have e2:=s1 _ _ e
   have nci:p≠ci:=fun z=>by rw [<-z,d6 (i0 e2 hf),d6 (i0 e2 hc),d6 nP,e2] at hci;cases hci
   rw [d6 nci,d6 (i0 e2 hf),d6 (i0 e2 hc),d6 nP]
   exact e2
  ·rw [d6 nf];exact c7
  ·rw [d6 nc,d6 (fun z=>nfc z.symm)];exact c7
  ·refine kk x _ ?_
   obtain ⟨l2,rfl,hl2⟩:=hx
   exact a0 l2 rfl (by rw [m8 (fun z=>by rw [z,h2] at hl2;cases hl2)];exact hl2)
end
theorem bd6 (l:List Rat):(if l.all tellable then Ma.E8 l else [-6])=Ma.E8 l:=by
 cases h:l.all tellable with
 | true=>rfl
 | false=>unfold Ma.E8;rw [h];rfl
theorem bi6 {line i:Nat}{t a b c d:Bytes}(hg:∀ s,line<=2->t.length<=65536->M9 [a,b,c,d]≠none->Ln.Text.read t=.ok s->Ma.P6 s.glasses) :
  am9 line t [a,b,c,d] (rkI i)=LensDNeutral.shown (LensD.answer (.part t line ⟨a,b,c,d⟩ i)):=by
 have e:∀ x,LensD.numOf x=Ma.y2 x:=fun x=>Ma.ba1 x
 have none_case:∀ x∈[a,b,c,d],Ma.y2 x=none->am9 line t [a,b,c,d] (rkI i)=[-1]:=fun x hx h=>by
  unfold am9
  rw [ac8 hx h]
  by_cases hb:2 < line\/65536 < t.length
  ·rw [if_pos hb]
  ·rw [if_neg hb]
 show _=LensDNeutral.shown (LensD.withRays t line ⟨a,b,c,d⟩ fun s m c=>if s.count<=i then LensD.number (-2) else LensD.tellSums (Ln.partOf s line m c i))
 unfold LensD.withRays LensD.raysOf
 simp only [e]
 cases ha:Ma.y2 a with
 | none=>exact none_case a (by simp) ha
 | some y =>
 cases hb:Ma.y2 b with
 | none=>exact none_case b (by simp) hb
 | some v =>
 cases hc:Ma.y2 c with
 | none=>exact none_case c (by simp) hc
 | some z =>
 cases hd:Ma.y2 d with
 | none=>exact none_case d (by simp) hd
 | some u =>
  have hQ:M9 [a,b,c,d]=some [y,v,z,u]:=by
   simp only [M9,ha,hb,hc,hd]
  dsimp only
  unfold am9
  rw [hQ]
  by_cases hl:Ln.LINES<=line
  ·rw [if_pos hl,if_pos (Or.inl (show 2 < line from hl))];rfl
  ·rw [if_neg hl]
   have hl2:line<=2:=by have:¬ 3<=line:=hl;omega
   unfold LensD.withSystem
   by_cases ht:65536 < t.length
   ·rw [if_pos (Or.inr ht),if_pos (show LensD.BYTES < t.length from ht)];rfl
   ·rw [if_neg (show ¬ LensD.BYTES < t.length from ht),if_neg (by omega)]
    cases hrd:Ln.Text.read t with
    | error er=>rfl
    | ok sy =>
     dsimp only
     have hG:=hg sy hl2 (by omega) (by rw [hQ];simp) hrd
     have hn:=Ma.aI7 hG line
     unfold rkI av9
     dsimp only
     have hlen:(Ma.ac9 sy line).length=sy.count:=by unfold Ma.ac9 Ma.j9;rw [List.length_map,List.length_range']
     by_cases hi:sy.count<=i
     ·rw [if_pos hi,List.getElem?_eq_none (by omega)];rfl
     ·rw [if_neg hi,Ma.aX7 sy line _ _ hn]
      have hti:(Ma.ac9 sy line)[i]?=some (Ma.y3 sy line i):=by
       unfold Ma.ac9 Ma.j9
       rw [List.getElem?_map,List.getElem?_range' (by omega)]
       show some (Ma.y3 sy line (0+1*i))=_
       rw [Nat.zero_add,Nat.one_mul]
      have htk:(Ma.ac9 sy line).take (i+1)=Ma.j9 sy line 0 i++[Ma.y3 sy line i]:=by
       have h1:(Ma.ac9 sy line).take i=Ma.j9 sy line 0 i:=by
        unfold Ma.ac9 Ma.j9
        have hr:List.range' 0 sy.count=List.range' 0 i++List.range' (0+i) (sy.count - i):=by
         rw [List.range'_append_1];congr 1;omega
        rw [hr,List.map_append]
        exact List.take_left' (by rw [List.length_map,List.length_range'])
       rw [List.take_add_one,hti,h1];rfl
      have hl0:(Ma.j9 sy line 0 i).length=i:=by unfold Ma.j9;rw [List.length_map,List.length_range']
      obtain ⟨mc,hmc,hq⟩:=Ma.bq5 (Ma.j9 sy line 0 i) (Ma.y3 sy line i) y v z u
      rw [hl0] at hmc
      rw [hti]
      dsimp only
      rw [htk,hmc]
      dsimp only
      generalize Ma.K7 (Ma.j9 sy line 0 i++[Ma.y3 sy line i]) [y,v,z,u]=N at *
      generalize Ma.y3 sy line i=st at *
      cases hI:Ma.ag2 st mc.1 mc.2 with
      | none =>
       rw [hI] at hq
       cases hO:Ma.Y3 st (Ma.D1 (Ma.j9 sy line 0 i) ⟨y,v⟩) (Ma.D1 (Ma.j9 sy line 0 i) ⟨z,u⟩) with
       | none=>rfl
       | some x=>rw [hO] at hq;cases hq
      | some l =>
       rw [hI] at hq
       cases hO:Ma.Y3 st (Ma.D1 (Ma.j9 sy line 0 i) ⟨y,v⟩) (Ma.D1 (Ma.j9 sy line 0 i) ⟨z,u⟩) with
       | none=>rw [hO] at hq;cases hq
       | some x =>
        rw [hO] at hq
        have hq:Ma.p9 (l.zip (Ma.ak5 N ((Ma.C7 st:Nat):Int)))=Ma.Z7 x:=Option.some.inj hq
        show (if (Ma.p9 (l.zip (Ma.ak5 N ((Ma.C7 st:Nat):Int)))).all tellable then Ma.E8 (Ma.p9 (l.zip (Ma.ak5 N ((Ma.C7 st:Nat):Int)))) else [-6])=LensDNeutral.shown (LensD.gives (Ma.Z7 x))
        rw [hq,Ma.bm8,bd6]
theorem bE5 {Pt:Addr}{K:W.Frag}{H:Hp}{xs:List V}{E:XK}(a:Codec.denoteAll PySem.Challenge.rw_thirdsums_s02_part.args)(hP:H Pt=some (.tbl #[]))(hwi:Codec.withinAll PySem.Challenge.rw_thirdsums_s02_part.args a=true)
  (hx:DwAll K H xs (Codec.encAll PySem.Challenge.rw_thirdsums_s02_part.args a)) :
  bq3 Pt K xs H (fun v H'=>Dw K H' v (PySem.Challenge.rw_thirdsums_s02_part.ret.enc (Codec.app PySem.Challenge.rw_thirdsums_s02_part.args PySem.Challenge.rw_thirdsums_s02_part.f a))) E:=by
 obtain ⟨line,i,t,y,v,z,u,_⟩:=a
 have hw:(Codec.inPair (Codec.int (Int.ofNat 0) (Int.ofNat 4294967295)).within (Codec.inPair (Codec.int (Int.ofNat 0) (Int.ofNat 4294967295)).within (Codec.inPair (Codec.list 0 70000 (Codec.int (Int.ofNat 0) (Int.ofNat 255))).within (Codec.inPair (Codec.list 0 1000 (Codec.int (Int.ofNat 0) (Int.ofNat 255))).within (Codec.inPair (Codec.list 0 1000 (Codec.int (Int.ofNat 0) (Int.ofNat 255))).within (Codec.inPair (Codec.list 0 1000 (Codec.int (Int.ofNat 0) (Int.ofNat 255))).within (Codec.inPair (Codec.list 0 1000 (Codec.int (Int.ofNat 0) (Int.ofNat 255))).within (fun _=>true)))))))) (line,i,t,y,v,z,u,())=true:=hwi
 simp only [Codec.inPair,Bool.and_eq_true] at hw
 obtain ⟨w0,w1,w2,w3,w4,w5,w6,_⟩:=hw
 have hx:DwAll K H xs [WData.int line,WData.int i,WData.list (t.map WData.int),WData.list (y.map WData.int),WData.list (v.map WData.int),WData.list (z.map WData.int),WData.list (u.map WData.int)]:=hx
 have p0:0<=line:=by
  have w:Codec.inInt (Int.ofNat 0) (Int.ofNat 4294967295) line=true:=w0
  simp only [Codec.inInt,Bool.and_eq_true,decide_eq_true_eq] at w
  simpa using w.1
 have p1:0<=i:=by
  have w:Codec.inInt (Int.ofNat 0) (Int.ofNat 4294967295) i=true:=w1
  simp only [Codec.inInt,Bool.and_eq_true,decide_eq_true_eq] at w
  simpa using w.1
 cases hx with
 | cons h0 hx =>
 cases hx with
 | cons h1 hx =>
 cases hx with
 | cons h2 hx =>
 cases hx with
 | cons h3 hx =>
 cases hx with
 | cons h4 hx =>
 cases hx with
 | cons h5 hx =>
 cases hx with
 | cons h6 hx =>
 cases hx
 cases h0
 cases h1
 refine m9 (F0 H Pt) line.toNat i.toNat _ _ (m9 _ _ _ (LensDNeutral.text t) (LensDNeutral.text y) (R3 (LensDNeutral.text v) (LensDNeutral.text z) (LensDNeutral.text u) (PyWqbbbo.part line i t y v z u) ⟨?_,hP,X5,aY4,ab2 hP (aa9 w2) h2,ab2 hP (aa9 w3) h3,ab2 hP (aa9 w4) h4,ab2 hP (aa9 w5) h5,ab2 hP (aa9 w6) h6,fun hg=>(bi6 hg).trans ?_,?_⟩))
 ·rw [Int.toNat_of_nonneg p0,Int.toNat_of_nonneg p1]
 ·rfl
 ·rintro x H' ⟨l,rfl,hl⟩
  show Dw K H' (.ref l) (.list ((PyWqbbbo.part line i t y v z u).map WData.int))
  exact .lst (.of hl) (aT9 _)
end Th
set_option maxHeartbeats 2000000
namespace Th
open PySem PySem.Spec PySem.W PyProof.Rows L2
open Ln (Bytes System_)
theorem bQ6 {P:Program}:∀ (w:World) (H:Hp) (s:Shared) (e:Value) (s':Shared),cxX P w [] H s (fun _ _ _=>False) e s'->False:=fun _ _ _ _ _ ⟨_,_,_,_,_,_,_,_,_,_,h⟩=>h
section
variable {w:World}{K:W.Frag}{mg:Str->Option Value}{base h:Heap}
def Fn (K:W.Frag)(mg:Str->Option Value)(x:Str)(st:Stmt):Prop:=∃ f fd,Fun K x x st f fd/\mg x=some (.ref f)
theorem bR7 {x:Str}{st:Stmt}{f:Addr}{oc:Value}{od an:Option Addr}{osl:Array (Option Value)}{kV doc pm cdv ct:Value}(X:K.In h)(G:h.Ns mainGlobals mg)(a:W.nsIn K mainGlobals x=some (some (.ref f)))
  (l:K.lookup f=some ⟨oc,od,.func (W.fnOf x x (F4 st) (C1 st) (d7 st) .none kV doc pm an cdv ct),osl⟩) (c:W.codeIn K cdv x=true) (k:W.keepIn K (.ref f)=true):Fn K mg x st :=
 (L8 f _ (aO4 l c k) (W.mg_of X G a))
theorem bR5 {x:Str}{i:Int}{t:Tok}(X:K.In h)(G:h.Ns mainGlobals mg)(a:W.nsIn K mainGlobals x=some (some (.int i t))):GI mg x i:=(j7 t (W.mg_of X G a))
theorem bR4 {x y:Str}{t:Tok}(X:K.In h)(G:h.Ns mainGlobals mg)(a:W.nsIn K mainGlobals x=some (some (.str y t))):GS mg x y:=(j7 t (W.mg_of X G a))
theorem aE5:∀ {us:List Value}{xs:List V},us.map bM0=xs.map some->n9 xs us
 | [],[],_=>.nil
 | [],_::_,e=>nomatch e
 | _::_,[],e=>nomatch e
 | u::us,x::xs,e=>by
  injection e with e1 e2
  refine .cons ?_ (aE5 e2)
  cases u<;>cases e1<;>first | rfl | exact j7 _ rfl
theorem bR3 {x:Str}{xs:List V}{a:Addr}{od:Option Addr}{its:Array Value}{n:Nat}{sl:Array (Option Value)}(X:K.In h)(G:h.Ns mainGlobals mg)(m:W.nsIn K mainGlobals x=some (some (.ref a)))(l:K.lookup a=some ⟨.type "tuple",od,.seq its n,sl⟩)
  (e:its.toList.map bM0=xs.map some) (hz:its.toList.length<=sizeLine):GT K mg x xs :=
 (a0 a (W.mg_of X G m) (fun H=>.inr (u0 _ its n l rfl rfl (by simpa using hz) (aE5 e))))
structure az0 (K:W.Frag)(mg:Str->Option Value)(x:Str)(C:Addr):Prop where
 m:mg x=some (.ref C)
 cl:Cls K C
 mks:W.makesIn K C=true
 kp:W.keepIn K (.ref C)=true
theorem aD6 {x:Str}{C:Addr}(X:K.In h)(G:h.Ns mainGlobals mg)(a:W.nsIn K mainGlobals x=some (some (.ref C)))(pg:W.plainGet K C Str.empty=true)(hd:W.hasDictIn K C=true)(po:W.plainOver K C=true)
  (sa:W.findIn K (.ref C) "__setattr__"=some (some (.builtin "object.__setattr__"))) (mk:W.makesIn K C=true) (kp:W.keepIn K (.ref C)=true):az0 K mg x C:=⟨W.mg_of X G a,⟨pg,hd,po,sa⟩,mk,kp⟩
def Mth (K:W.Frag)(C:Addr)(m qual:Str)(st:Stmt):Prop:=∃ f fd,Fun K m qual st f fd/\bb3 K C m f
theorem T6 {C:Addr}{m qual:Str}{st:Stmt}{f:Addr}{oc:Value}{od an:Option Addr}{osl:Array (Option Value)}{kV doc pm cdv ct:Value}(a:W.findIn K (.ref C) m=some (some (.ref f)))(i:W.isFn K (.ref f)=true)
  (l:K.lookup f=some ⟨oc,od,.func (W.fnOf m qual (F4 st) (C1 st) (d7 st) .none kV doc pm an cdv ct),osl⟩) (c:W.codeIn K cdv qual=true) (k:W.keepIn K (.ref f)=true):Mth K C m qual st :=
 (L8 f _ (aO4 l c k) ⟨a,i,k⟩)
structure ai3 (K:W.Frag)(mg:Str->Option Value)(x:Str)(C:Addr):Prop where
 m:mg x=some (.ref C)
 e:W.excIn K C [.type "Exception",.type "BaseException",.type "object"] "Exception.__new__"=true
 c:ai4 K C=true
theorem aD1 {x:Str}{C:Addr}(X:K.In h)(G:h.Ns mainGlobals mg)(a:W.nsIn K mainGlobals x=some (some (.ref C)))(e:W.excIn K C [.type "Exception",.type "BaseException",.type "object"] "Exception.__new__"=true)(c:ai4 K C=true):ai3 K mg x C:=⟨W.mg_of X G a,e,c⟩
theorem ai3.xc {x:Str}{C:Addr}(h:ai3 K mg x C):XC K mg x C:=⟨h.m,⟨h.e⟩⟩
theorem ai3.xh {x:Str}{C:Addr}(h:ai3 K mg x C):XH K mg x C:=⟨h.m,h.c⟩
def ai5:List Str:=["__setattr__","__getattribute__","__getattr__","place","kind"]
structure bB8 (K:W.Frag)(mg:Str->Option Value)(C:Addr):Prop where
 m:mg "Fault"=some (.ref C)
 kp:W.keepIn K (.ref C)=true
 c:ai4 K C=true
 ex:∃ f fd,Fun K "__init__" "Fault.__init__" D3 f fd/\aD9 K C f ai5
theorem bK7 {C f:Addr}{oc:Value}{od an:Option Addr}{osl:Array (Option Value)}{kV doc pm cdv ct:Value}(X:K.In h)(G:h.Ns mainGlobals mg)(a:W.nsIn K mainGlobals "Fault"=some (some (.ref C)))(kp:W.keepIn K (.ref C)=true)(i:W.findIn K (.ref C) "__init__"=some (some (.ref f)))(j:W.isFn K (.ref f)=true)
  (l:K.lookup f=some ⟨oc,od,.func (W.fnOf "__init__" "Fault.__init__" (F4 D3) (C1 D3) (d7 D3) .none kV doc pm an cdv ct),osl⟩) (cc:W.codeIn K cdv "Fault.__init__"=true) (k:W.keepIn K (.ref f)=true)
  (c:ai4 K C=true) (z:aP7 K C f ai5=true):bB8 K mg C :=
 ⟨W.mg_of X G a,kp,c,L8 f _ (aO4 l cc k) ⟨z,by decide +kernel,by decide +kernel,by decide +kernel,j⟩⟩
def ExB (K:W.Frag)(mg:Str->Option Value):Prop:=∃ CN CF CO CP CL:Addr,ai3 K mg "NotTaken" CN/\bB8 K mg CF/\ai3 K mg "NoElement" CO/\ai3 K mg "NotThere" CP/\ai3 K mg "TooLarge" CL/\[CN,CF,CO,CP,CL].Nodup
def RdB (K:W.Frag)(mg:Str->Option Value):Prop:=∃ C:Addr,az0 K mg "Reader" C/\l8 K C "text"/\l8 K C "token"/\Mth K C "__init__" "Reader.__init__" S8/\Mth K C "sees" "Reader.sees" S7/\Mth K C "piece" "Reader.piece" O4 /\
 Mth K C "refuse" "Reader.refuse" M4/\Mth K C "expect" "Reader.expect" M5/\Mth K C "step" "Reader.step" S6/\Mth K C "take" "Reader.take" S5
def ElB (K:W.Frag)(mg:Str->Option Value):Prop:=∃ C:Addr,az0 K mg "Element" C/\Mth K C "__init__" "Element.__init__" O5/\l8 K C "word"/\l8 K C "gap"/\l8 K C "glass"/\l8 K C "curve"/\l8 K C "conic"
def SyB (K:W.Frag)(mg:Str->Option Value):Prop:=∃ C:Addr,az0 K mg "System" C/\Mth K C "__init__" "System.__init__" S4/\l8 K C "medium"/\l8 K C "path"
def StB (K:W.Frag)(mg:Str->Option Value):Prop:=∃ C:Addr,az0 K mg "Station" C/\Mth K C "__init__" "Station.__init__" O3/\l8 K C "stop"/\l8 K C "walk"/\l8 K C "before"/\l8 K C "behind"/\l8 K C "square"/\l8 K C "bend"/\l8 K C "conic"/\l8 K C "colour"
theorem Q2 {P:List Value->Prop}(hp:∀ x0,P [x0]):∀ us:List Value,us.length=1->P us:=fun us hl=>match us,hl with | [x0],_=>hp x0
theorem J6 {P:List Value->Prop}(hp:∀ x0 x1,P [x0,x1]):∀ us:List Value,us.length=2->P us:=fun us hl=>match us,hl with | [x0,x1],_=>hp x0 x1
theorem au9 {P:List Value->Prop}(hp:∀ x0 x1 x2,P [x0,x1,x2]):∀ us:List Value,us.length=3->P us:=fun us hl=>match us,hl with | [x0,x1,x2],_=>hp x0 x1 x2
theorem bS1 {P:List Value->Prop}(hp:∀ x0 x1 x2 x3,P [x0,x1,x2,x3]):∀ us:List Value,us.length=4->P us:=fun us hl=>match us,hl with | [x0,x1,x2,x3],_=>hp x0 x1 x2 x3
theorem bV8 {P:List Value->Prop}(hp:∀ x0 x1 x2 x3 x4,P [x0,x1,x2,x3,x4]):∀ us:List Value,us.length=5->P us:=fun us hl=>match us,hl with | [x0,x1,x2,x3,x4],_=>hp x0 x1 x2 x3 x4
theorem bV7 {P:List Value->Prop}(hp:∀ x0 x1 x2 x3 x4 x5,P [x0,x1,x2,x3,x4,x5]):∀ us:List Value,us.length=6->P us:=fun us hl=>match us,hl with | [x0,x1,x2,x3,x4,x5],_=>hp x0 x1 x2 x3 x4 x5
theorem Fn.def_ {x:Str}{st:Stmt}{k:Nat}{ps:List Str}{sp:Sp}(F:Fn K mg x st)(ok:∀ f fd,Fun K x x st f fd->l6 prog w K mg base (cxX prog w) k f fd ps sp)
  (b:∀ (kV doc pm:Value) (an:Option Addr) (cdv ct:Value) (us:List Value),us.length=ps.length->bindArgs (W.fnOf x x (F4 st) (C1 st) (d7 st) .none kV doc pm an cdv ct) ⟨us,[]⟩=pure (ps.zip us)):Def prog w K mg base k x ps sp :=
 let ⟨f,fd,F,m⟩:=F;⟨f,I0 fd (ok f fd F) m F.kp (F.binds b)⟩
theorem Mth.def_ {C:Addr}{m qual:Str}{st:Stmt}{k:Nat}{ps:List Str}{sp:Sp}(F:Mth K C m qual st)(ok:∀ f fd,Fun K m qual st f fd->l6 prog w K mg base (cxX prog w) k f fd ps sp)
  (b:∀ (kV doc pm:Value) (an:Option Addr) (cdv ct:Value) (us:List Value),us.length=ps.length->bindArgs (W.fnOf m qual (F4 st) (C1 st) (d7 st) .none kV doc pm an cdv ct) ⟨us,[]⟩=pure (ps.zip us)):ad1 prog w K mg base k C m ps sp :=
 let ⟨f,fd,F,m⟩:=F;⟨f,d8 fd (ok f fd F) m (F.binds b)⟩
theorem Mth.mdl {C:Addr}{x qual:Str}{st:Stmt}{k:Nat}{ps:List Str}{sp:Sp}(F:Mth K C "__init__" qual st)(c:az0 K mg x C)(ok:∀ f fd,Fun K "__init__" qual st f fd->l6 prog w K mg base (cxX prog w) k f fd ps sp)
  (b:∀ (kV doc pm:Value) (an:Option Addr) (cdv ct:Value) (us:List Value),us.length=ps.length->bindArgs (W.fnOf "__init__" qual (F4 st) (C1 st) (d7 st) .none kV doc pm an cdv ct) ⟨us,[]⟩=pure (ps.zip us)):Mdl prog w K mg base k C x ps sp :=
 let ⟨f,fd,F,m⟩:=F;⟨c.cl,c.m,g6 f fd ⟨c.mks,m.at_,m.fn,c.kp⟩ (ok f fd F) (F.binds b)⟩
structure bB7 (K:W.Frag)(mg:Str->Option Value)(x:Str)(st:Stmt)(cm Pt f:Addr)(fd:FuncData):Prop where
 m:mg x=some (.ref f)
 hd:aC8 K cm Pt=true
 pn:K.lookup Pt=none
 lk:∃ oc od sl,K.lookup f=some ⟨oc,od,.func fd,sl⟩/\fd.code=.ref cm
 fn:bz2 K x x st f fd cm
theorem bk9 {x:Str}{st:Stmt}{f cm Pt:Addr}{oc:Value}{od an ocd:Option Addr}{osl csl:Array (Option Value)}{kV doc pm ct:Value}{vs:Array Value}(X:K.In h)(G:h.Ns mainGlobals mg)(a:W.nsIn K mainGlobals x=some (some (.ref f)))
  (l:K.lookup f=some ⟨oc,od,.func (W.fnOf x x (F4 st) (C1 st) (d7 st) .none kV doc pm an (.ref cm) ct),osl⟩) (c:W.codeIn K (.ref cm) x=true) (lc:K.lookup cm=some ⟨.type "code",ocd,.fields vs,csl⟩) (hv:vs[11]?=some (.ref Pt)) (pn:K.lookup Pt=none) (hd:aC8 K cm Pt=true) :
  ∃ fd,bB7 K mg x st cm Pt f fd :=
 (j7 _ ⟨W.mg_of X G a,hd,pn,(G0 oc od osl ⟨l,rfl⟩),⟨oc,m9 od kV doc pm an (g6 ct osl rfl l c)⟩⟩)
end
end Th
set_option maxHeartbeats 2000000
namespace Th
open PySem PySem.Spec PySem.W PyProof.Rows L2
open Ln (Bytes System_)
structure Glb (K:W.Frag)(mg:Str->Option Value):Prop where
 i_MINUS:GI mg "MINUS" 45
 i_POINT:GI mg "POINT" 46
 i_SLASH:GI mg "SLASH" 47
 i_MOST_BYTES:GI mg "MOST_BYTES" 512
 i_TOO_GREAT:GI mg "TOO_GREAT" 1000000000000000000
 i_HASH:GI mg "HASH" 35
 i_LINE_END:GI mg "LINE_END" 10
 i_MOST_NAME_BYTES:GI mg "MOST_NAME_BYTES" 32
 i_MOST_DIGITS:GI mg "MOST_DIGITS" 18
 i_MOST:GI mg "MOST" 64
 i_NO_TOKEN:GI mg "NO_TOKEN" 1
 i_CANNOT_STAND:GI mg "CANNOT_STAND" 2
 i_NAME_TAKEN:GI mg "NAME_TAKEN" 3
 i_NO_SUCH_GLASS:GI mg "NO_SUCH_GLASS" 4
 i_TOO_MANY:GI mg "TOO_MANY" 5
 i_BAD_NUMBER:GI mg "BAD_NUMBER" 6
 i_MOST_BITS:GI mg "MOST_BITS" 4096
 i_LAST_LINE:GI mg "LAST_LINE" 2
 i_MOST_TEXT_BYTES:GI mg "MOST_TEXT_BYTES" 65536
 n_abs:mg "abs"=none
 n_len:mg "len"=none
 n_ord:mg "ord"=none
 n_tuple:mg "tuple"=none
 n_str:mg "str"=none
 n_list:mg "list"=none
 n_zip:mg "zip"=none
 t_WORDS:GT K mg "WORDS" (WS.map fun s=>V.str (Str.ofString s))
 t_ZERO:GT K mg "ZERO" [.int 0,.int 1]
 t_ONE:GT K mg "ONE" [.int 1,.int 1]
 s_MARKS:GS mg "MARKS" ":,;/-"
structure Fns (K:W.Frag)(mg:Str->Option Value):Prop where
 f_common_divisor:Fn K mg "common_divisor" K6
 f_fraction:Fn K mg "fraction" ae0
 f_negative:Fn K mg "negative" ad8
 f_plus:Fn K mg "plus" aM3
 f_minus:Fn K mg "minus" aB5
 f_times:Fn K mg "times" aB4
 f_over:Fn K mg "over" aM4
 f_is_digit:Fn K mg "is_digit" ad9
 f_digits_end:Fn K mg "digits_end" X0
 f_whole_value:Fn K mg "whole_value" R5
 f_pointed_value:Fn K mg "pointed_value" M3
 f_unsigned_value:Fn K mg "unsigned_value" K4
 f_handed_over:Fn K mg "handed_over" S1
 f_begins_name:Fn K mg "begins_name" S2
 f_goes_on_name:Fn K mg "goes_on_name" O2
 f_blanks_end:Fn K mg "blanks_end" X1
 f_word_or_name:Fn K mg "word_or_name" J0
 f_name_token:Fn K mg "name_token" W8
 f_bars_number:Fn K mg "bars_number" S3
 f_number_token:Fn K mg "number_token" O0
 f_token_from:Fn K mg "token_from" W0
 f_read_pointed:Fn K mg "read_pointed" N7
 f_read_number:Fn K mg "read_number" S0
 f_read_value:Fn K mg "read_value" W1
 f_refuse_number_before:Fn K mg "refuse_number_before" B9
 f_read_index:Fn K mg "read_index" W2
 f_read_new_name:Fn K mg "read_new_name" M2
 f_read_known_glass:Fn K mg "read_known_glass" F7
 f_read_glass:Fn K mg "read_glass" W3
 f_read_glasses:Fn K mg "read_glasses" N8
 f_read_curve:Fn K mg "read_curve" W4
 f_read_conic:Fn K mg "read_conic" W5
 f_pass_clear:Fn K mg "pass_clear" W6
 f_read_element:Fn K mg "read_element" N9
 f_read_path:Fn K mg "read_path" aa0
 f_read_system:Fn K mg "read_system" R9
 f_spread:Fn K mg "spread" aq2
 f_squared:Fn K mg "squared" aj6
 f_shape_station:Fn K mg "shape_station" M1
 f_stations_of:Fn K mg "stations_of" R6
 f_exact_text:Fn K mg "exact_text" W9
 f_told:Fn K mg "told" aB3
 f_refuse_sizes:Fn K mg "refuse_sizes" N6
 f_answered:Fn K mg "answered" X2
 f_length_scale:Fn K mg "length_scale" O1
 f_least_multiple:Fn K mg "least_multiple" K5
 f_station_scale:Fn K mg "station_scale" M0
 f_on_scale:Fn K mg "on_scale" ad7
 f_follow:Fn K mg "follow" aq3
 f_shaped_part:Fn K mg "shaped_part" R8
 f_part_of:Fn K mg "part_of" aj7
 f_meetings_of:Fn K mg "meetings_of" L3
 f_as_pairs:Fn K mg "as_pairs" ae1
 f_single_part:Fn K mg "single_part" R7
section
variable {w:World}{K:W.Frag}{mg:Str->Option Value}{base h:Heap}
theorem bc5 {cm Pt f fa:Addr}{fd:FuncData}(hfa:mg "part"=some (.ref fa))(M:bB7 K mg "part" W7 cm Pt f fd)(G:Glb K mg)(F:Fns K mg)(X:ExB K mg)(R:RdB K mg)(El:ElB K mg)(Sy:SyB K mg)(St:StB K mg) :
  ∃ (cm Pt:Addr) (fd:FuncData),aC8 K cm Pt=true/\K.lookup Pt=none/\(∃ oc od sl,K.lookup fa=some ⟨oc,od,.func fd,sl⟩/\fd.code=.ref cm)/\(∀ (s:Shared) (us:List Value),us.length=(["line","i","t","y","v","z","w"]:List Str).length->BindsTo s fd ⟨us,[]⟩ ((["line","i","t","y","v","z","w"]:List Str).zip us))/\∀ base:Heap,K.In base->base.Ns mainGlobals mg->l6 prog w K mg base (cxX prog w) 16 fa fd ["line","i","t","y","v","z","w"] (bq3 Pt K):=by
 obtain ⟨CN,CF,CO,CP,CL,xN,xF,xO,xP,xL,nd⟩:=X
 obtain ⟨CR,cR,nR1,nR2,iR,mR1,mR2,mR3,mR4,mR5,mR6⟩:=R
 obtain ⟨CE,cE,iE,nE1,nE2,nE3,nE4,nE5⟩:=El
 obtain ⟨CS,cS,iS,nS1,nS2⟩:=Sy
 obtain ⟨CT,cT,iT,nT1,nT2,nT3,nT4,nT5,nT6,nT7,nT8⟩:=St
 have e:=hfa.symm.trans M.m
 cases e
 refine u0 cm Pt fd M.hd M.pn M.lk (fun s us hu=>?_) (fun base _ _=>?_)
 ·obtain ⟨oc,od,kV,doc,pm,an,ct,osl,rfl,lk,hcd⟩:=M.fn.ex
  exact match us,hu with | [_,_,_,_,_,_,_],_=>.of_eq rfl
 have tx:Tx K mg:=⟨G.n_abs,G.n_len⟩
 have td:Td K mg CN:=⟨tx,G.i_MINUS,G.i_POINT,G.i_SLASH,G.i_MOST_BYTES,G.i_TOO_GREAT,xN.xc⟩
 have tk:Tk K mg CN:=⟨td,G.i_HASH,G.i_LINE_END,G.i_MOST_NAME_BYTES,G.i_MOST_DIGITS,G.n_ord⟩
 have tl:Tl K mg CN:=⟨tk,G.t_WORDS,G.s_MARKS⟩
 have tr:Tr K mg CN CF CR:=⟨tl,cR.cl,nR1,nR2,xF.m,xF.kp,G.i_MOST,G.i_NO_TOKEN,G.i_CANNOT_STAND,G.i_NAME_TAKEN,G.i_NO_SUCH_GLASS,G.i_TOO_MANY,G.i_BAD_NUMBER⟩
 have tn:Tn K mg CN CF CR:=⟨tr,G.n_tuple⟩
 have tq:Tq K mg:=⟨G.t_ZERO,G.t_ONE⟩
 have te:Te K CE:=⟨cE.cl,nE1,nE2,nE3,nE4,nE5⟩
 have ts:Ts K CS:=⟨cS.cl,nS1,nS2⟩
 have tt:Tt K CT:=⟨cT.cl,nT1,nT2,nT3,nT4,nT5,nT6,nT7,nT8⟩
 have tm:Tm K mg CL:=⟨G.i_MOST_BITS,xL.xc,G.n_str,G.n_ord,G.n_len⟩
 have tpz:Tpz K mg CP:=⟨xP.xc,G.n_list,G.n_zip⟩
 simp only [List.nodup_cons,List.mem_cons,List.not_mem_nil,or_false,not_or] at nd
 obtain ⟨⟨a1,a2,a3,a4⟩,⟨b1,b2,b3⟩,⟨c1,c2⟩,d1,_⟩:=nd
 obtain ⟨fI,fdI,FI_,xi⟩:=xF.ex
 have p1:("place" : Str)∈ai5:=by decide +kernel
 have p2:("kind" : Str)∈ai5:=by decide +kernel
 have ta:Ta K mg CN CF CO CP CL:=⟨G.i_LAST_LINE,G.i_MOST_TEXT_BYTES,G.n_len,xN.xc,xN.xh,⟨xF.m,xF.c⟩,xO.xh,xP.xh,xL.xh,(g6 fI ai5 xi p1 p2),b1,b2,b3,a1,a2,a3,a4,c1,c2,d1⟩
 have fi:FI w K mg base CF:=⟨fI,g6 fdI ai5 xi (bQ0 FI_ xi p1 p2) (FI_.binds (fun _ _ _ _ _ _=>au9 fun _ _ _=>rfl))⟩
 have dcommon_divisor:=F.f_common_divisor.def_ (w:=w) (base:=base) (fun _ _ F=>bI4 F) (fun _ _ _ _ _ _=>J6 fun _ _=>rfl)
 have dfraction:=F.f_fraction.def_ (w:=w) (base:=base) (fun _ _ F=>bu7 F tx dcommon_divisor) (fun _ _ _ _ _ _=>J6 fun _ _=>rfl)
 have dnegative:=F.f_negative.def_ (w:=w) (base:=base) (fun _ _ F=>bI0 F) (fun _ _ _ _ _ _=>Q2 fun _=>rfl)
 have dplus:=F.f_plus.def_ (w:=w) (base:=base) (fun _ _ F=>bu1 F dfraction) (fun _ _ _ _ _ _=>J6 fun _ _=>rfl)
 have dminus:=F.f_minus.def_ (w:=w) (base:=base) (fun _ _ F=>bj5 F dnegative dplus) (fun _ _ _ _ _ _=>J6 fun _ _=>rfl)
 have dtimes:=F.f_times.def_ (w:=w) (base:=base) (fun _ _ F=>bj3 F dfraction) (fun _ _ _ _ _ _=>J6 fun _ _=>rfl)
 have dover:=F.f_over.def_ (w:=w) (base:=base) (fun _ _ F=>bu3 F dfraction) (fun _ _ _ _ _ _=>J6 fun _ _=>rfl)
 have dis_digit:=F.f_is_digit.def_ (w:=w) (base:=base) (fun _ _ F=>bj6 F) (fun _ _ _ _ _ _=>Q2 fun _=>rfl)
 have ddigits_end:=F.f_digits_end.def_ (w:=w) (base:=base) (fun _ _ F=>aY1 F td dis_digit) (fun _ _ _ _ _ _=>J6 fun _ _=>rfl)
 have dwhole_value:=F.f_whole_value.def_ (w:=w) (base:=base) (fun _ _ F=>bj2 F) (fun _ _ _ _ _ _=>Q2 fun _=>rfl)
 have dpointed_value:=F.f_pointed_value.def_ (w:=w) (base:=base) (fun _ _ F=>aN0 F dfraction dwhole_value) (fun _ _ _ _ _ _=>J6 fun _ _=>rfl)
 have dunsigned_value:=F.f_unsigned_value.def_ (w:=w) (base:=base) (fun _ _ F=>bG2 F td ddigits_end dfraction dwhole_value dpointed_value) (fun _ _ _ _ _ _=>Q2 fun _=>rfl)
 have dhanded_over:=F.f_handed_over.def_ (w:=w) (base:=base) (fun _ _ F=>aX9 F td dnegative dunsigned_value) (fun _ _ _ _ _ _=>Q2 fun _=>rfl)
 have dbegins_name:=F.f_begins_name.def_ (w:=w) (base:=base) (fun _ _ F=>aY3 F) (fun _ _ _ _ _ _=>Q2 fun _=>rfl)
 have dgoes_on_name:=F.f_goes_on_name.def_ (w:=w) (base:=base) (fun _ _ F=>bu6 F dbegins_name dis_digit) (fun _ _ _ _ _ _=>Q2 fun _=>rfl)
 have dblanks_end:=F.f_blanks_end.def_ (w:=w) (base:=base) (fun _ _ F=>aY2 F tk) (fun _ _ _ _ _ _=>J6 fun _ _=>rfl)
 have dword_or_name:=F.f_word_or_name.def_ (w:=w) (base:=base) (fun _ _ F=>bG1 F tl) (fun _ _ _ _ _ _=>Q2 fun _=>rfl)
 have dname_token:=F.f_name_token.def_ (w:=w) (base:=base) (fun _ _ F=>bu5 F tl dgoes_on_name dword_or_name) (fun _ _ _ _ _ _=>J6 fun _ _=>rfl)
 have dbars_number:=F.f_bars_number.def_ (w:=w) (base:=base) (fun _ _ F=>bu8 F tl dgoes_on_name) (fun _ _ _ _ _ _=>J6 fun _ _=>rfl)
 have dnumber_token:=F.f_number_token.def_ (w:=w) (base:=base) (fun _ _ F=>bu4 F tl ddigits_end dbars_number) (fun _ _ _ _ _ _=>J6 fun _ _=>rfl)
 have dtoken_from:=F.f_token_from.def_ (w:=w) (base:=base) (fun _ _ F=>bt2 F tl dblanks_end dbegins_name dis_digit dname_token dnumber_token) (fun _ _ _ _ _ _=>J6 fun _ _=>rfl)
 have rsees:=mR1.def_ (w:=w) (mg:=mg) (base:=base) (fun _ _ F=>bt5 F tr) (fun _ _ _ _ _ _=>J6 fun _ _=>rfl)
 have rpiece:=mR2.def_ (w:=w) (mg:=mg) (base:=base) (fun _ _ F=>bj4 F tr) (fun _ _ _ _ _ _=>Q2 fun _=>rfl)
 have rrefuse:=mR3.def_ (w:=w) (mg:=mg) (base:=base) (fun _ _ F=>aX8 F tr fi) (fun _ _ _ _ _ _=>J6 fun _ _=>rfl)
 have rexpect:=mR4.def_ (w:=w) (mg:=mg) (base:=base) (fun _ _ F=>aY0 F tr rsees rrefuse) (fun _ _ _ _ _ _=>J6 fun _ _=>rfl)
 have rstep:=mR5.def_ (w:=w) (mg:=mg) (base:=base) (fun _ _ F=>bt4 F tr dtoken_from) (fun _ _ _ _ _ _=>Q2 fun _=>rfl)
 have rtake:=mR6.def_ (w:=w) (mg:=mg) (base:=base) (fun _ _ F=>bt3 F tr rexpect rpiece rstep) (fun _ _ _ _ _ _=>J6 fun _ _=>rfl)
 have rd:Rdr w K mg base CR CF:=⟨rsees,rpiece,rrefuse,rexpect,rstep,rtake⟩
 have mR:=iR.mdl (w:=w) (base:=base) cR (fun _ _ F=>bP7 F tr dtoken_from) (fun _ _ _ _ _ _=>J6 fun _ _=>rfl)
 have dread_pointed:=F.f_read_pointed.def_ (w:=w) (base:=base) (fun _ _ F=>bH2 F tr rd dpointed_value) (fun _ _ _ _ _ _=>Q2 fun _=>rfl)
 have dread_number:=F.f_read_number.def_ (w:=w) (base:=base) (fun _ _ F=>bt7 F tr rd dread_pointed dwhole_value dover) (fun _ _ _ _ _ _=>Q2 fun _=>rfl)
 have dread_value:=F.f_read_value.def_ (w:=w) (base:=base) (fun _ _ F=>bt6 F tr rd dread_number dnegative) (fun _ _ _ _ _ _=>Q2 fun _=>rfl)
 have drefuse_number_before:=F.f_refuse_number_before.def_ (w:=w) (base:=base) (fun _ _ F=>bI7 F tr rd) (fun _ _ _ _ _ _=>au9 fun _ _ _=>rfl)
 have dread_index:=F.f_read_index.def_ (w:=w) (base:=base) (fun _ _ F=>bt8 F tr rd dread_number drefuse_number_before) (fun _ _ _ _ _ _=>J6 fun _ _=>rfl)
 have dread_new_name:=F.f_read_new_name.def_ (w:=w) (base:=base) (fun _ _ F=>bH4 F tn rd) (fun _ _ _ _ _ _=>J6 fun _ _=>rfl)
 have dread_known_glass:=F.f_read_known_glass.def_ (w:=w) (base:=base) (fun _ _ F=>bH5 F tn rd) (fun _ _ _ _ _ _=>J6 fun _ _=>rfl)
 have dread_glass:=F.f_read_glass.def_ (w:=w) (base:=base) (fun _ _ F=>bH7 F tn rd dread_new_name dread_index) (fun _ _ _ _ _ _=>J6 fun _ _=>rfl)
 have dread_glasses:=F.f_read_glasses.def_ (w:=w) (base:=base) (fun _ _ F=>bH6 F tn rd dread_glass) (fun _ _ _ _ _ _=>Q2 fun _=>rfl)
 have dread_curve:=F.f_read_curve.def_ (w:=w) (base:=base) (fun _ _ F=>bt9 F tr tq rd dread_value drefuse_number_before dover) (fun _ _ _ _ _ _=>Q2 fun _=>rfl)
 have dread_conic:=F.f_read_conic.def_ (w:=w) (base:=base) (fun _ _ F=>bu0 F tr tq rd dread_value) (fun _ _ _ _ _ _=>Q2 fun _=>rfl)
 have dpass_clear:=F.f_pass_clear.def_ (w:=w) (base:=base) (fun _ _ F=>bu2 F tr rd dread_number drefuse_number_before) (fun _ _ _ _ _ _=>Q2 fun _=>rfl)
 have mE:=iE.mdl (w:=w) (base:=base) cE (fun _ _ F=>bQ1 F te) (fun _ _ _ _ _ _=>bV7 fun _ _ _ _ _ _=>rfl)
 have mS:=iS.mdl (w:=w) (base:=base) cS (fun _ _ F=>bP6 F ts) (fun _ _ _ _ _ _=>au9 fun _ _ _=>rfl)
 have dread_element:=F.f_read_element.def_ (w:=w) (base:=base) (fun _ _ F=>bH8 F tn tq rd mE dread_new_name dread_number dread_known_glass dread_curve dread_conic dpass_clear) (fun _ _ _ _ _ _=>au9 fun _ _ _=>rfl)
 have dread_path:=F.f_read_path.def_ (w:=w) (base:=base) (fun _ _ F=>bH3 F tn rd dread_element) (fun _ _ _ _ _ _=>J6 fun _ _=>rfl)
 have dread_system:=F.f_read_system.def_ (w:=w) (base:=base) (fun _ _ F=>bH1 F tn rd mR mS dread_glasses dread_known_glass dread_path) (fun _ _ _ _ _ _=>Q2 fun _=>rfl)
 have mT:=iT.mdl (w:=w) (base:=base) cT (fun _ _ F=>bP5 F tt tq) (fun _ _ _ _ _ _=>au9 fun _ _ _=>rfl)
 have ar:bp2 w K mg base:=⟨dnegative,dplus,dminus,dtimes,dover⟩
 have dspread:=F.f_spread.def_ (w:=w) (base:=base) (fun _ _ F=>bG5 F dover dminus) (fun _ _ _ _ _ _=>J6 fun _ _=>rfl)
 have dsquared:=F.f_squared.def_ (w:=w) (base:=base) (fun _ _ F=>bG4 F dtimes) (fun _ _ _ _ _ _=>Q2 fun _=>rfl)
 have dshape_station:=F.f_shape_station.def_ (w:=w) (base:=base) (fun _ _ F=>bG8 F tt te tq ar dsquared) (fun _ _ _ _ _ _=>bS1 fun _ _ _ _=>rfl)
 have dstations_of:=F.f_stations_of.def_ (w:=w) (base:=base) (fun _ _ F=>bG3 F tt te ts ar mT dshape_station dspread) (fun _ _ _ _ _ _=>J6 fun _ _=>rfl)
 have dexact_text:=F.f_exact_text.def_ (w:=w) (base:=base) (fun _ _ F=>bI6 F tm) (fun _ _ _ _ _ _=>J6 fun _ _=>rfl)
 have dtold:=F.f_told.def_ (w:=w) (base:=base) (fun _ _ F=>bt1 F tm dfraction dexact_text) (fun _ _ _ _ _ _=>Q2 fun _=>rfl)
 have drefuse_sizes:=F.f_refuse_sizes.def_ (w:=w) (base:=base) (fun _ _ F=>bG6 F ta) (fun _ _ _ _ _ _=>J6 fun _ _=>rfl)
 have danswered:=F.f_answered.def_ (w:=w) (base:=base) (fun _ _ F=>bI9 F ta drefuse_sizes dhanded_over dread_system dstations_of dtold) (fun _ _ _ _ _ _=>bS1 fun _ _ _ _=>rfl)
 have dlength_scale:=F.f_length_scale.def_ (w:=w) (base:=base) (fun _ _ F=>bI2 F tt) (fun _ _ _ _ _ _=>J6 fun _ _=>rfl)
 have dleast_multiple:=F.f_least_multiple.def_ (w:=w) (base:=base) (fun _ _ F=>bI3 F dcommon_divisor) (fun _ _ _ _ _ _=>Q2 fun _=>rfl)
 have dstation_scale:=F.f_station_scale.def_ (w:=w) (base:=base) (fun _ _ F=>bH0 F tt dleast_multiple) (fun _ _ _ _ _ _=>Q2 fun _=>rfl)
 have don_scale:=F.f_on_scale.def_ (w:=w) (base:=base) (fun _ _ F=>bP9 F) (fun _ _ _ _ _ _=>J6 fun _ _=>rfl)
 have dfollow:=F.f_follow.def_ (w:=w) (base:=base) (fun _ _ F=>bI5 F tt) (fun _ _ _ _ _ _=>au9 fun _ _ _=>rfl)
 have dshaped_part:=F.f_shaped_part.def_ (w:=w) (base:=base) (fun _ _ F=>bG9 F tt dstation_scale don_scale) (fun _ _ _ _ _ _=>bV8 fun _ _ _ _ _=>rfl)
 have dpart_of:=F.f_part_of.def_ (w:=w) (base:=base) (fun _ _ F=>bH9 F tt tpz dshaped_part) (fun _ _ _ _ _ _=>au9 fun _ _ _=>rfl)
 have dmeetings_of:=F.f_meetings_of.def_ (w:=w) (base:=base) (fun _ _ F=>bI1 F tpz don_scale dfollow) (fun _ _ _ _ _ _=>au9 fun _ _ _=>rfl)
 have das_pairs:=F.f_as_pairs.def_ (w:=w) (base:=base) (fun _ _ F=>bI8 F tpz) (fun _ _ _ _ _ _=>au9 fun _ _ _=>rfl)
 have dsingle_part:=F.f_single_part.def_ (w:=w) (base:=base) (fun _ _ F=>bG7 F (⟨G.n_len,xO.xc⟩:Ti K mg CO) dlength_scale dmeetings_of dpart_of dstation_scale das_pairs) (fun _ _ _ _ _ _=>au9 fun _ _ _=>rfl)
 exact bP8 M.fn M.hd danswered dsingle_part
end
end Th

open PySem PySem.W PyProof.Rows
set_option maxRecDepth 100000 in
set_option maxHeartbeats 0 in
theorem PySem.Challenge.cw_thirdsums_s02_part_holds : PySem.Challenge.rw_thirdsums_s02_part.Holds := by
 w_on
 refine holds_os (q:=Th.vw) (loose:=[]) (Xt:=fun s=>xlAt Th.vw [] s && recOk [] s) (XP:=XL Th.vw []) (Yf:=Hook.obs (kHook Th.dummy.heap_1 Th.as Th.as_eq)) (Ya:=Hook.val (kHook Th.dummy.heap_1 Th.as Th.as_eq)) (YP:=Hook.says (kHook Th.dummy.heap_1 Th.as Th.as_eq)) (N:=8366) Th.left_o (Hook.of (kHook Th.dummy.heap_1 Th.as Th.as_eq)) (Hook.keeps (kHook Th.dummy.heap_1 Th.as Th.as_eq)) (fun s e=>xl_of s (Bool.and_eq_true_iff.mp e).1) XL.keeps (by rfl) (by rfl) (by rfl) (fun s e=>recFacts_of (Bool.and_eq_true_iff.mp e).2) os_shapes (by decide +kernel) (by decide +kernel) ⟨rfl,rfl,rfl,rfl,rfl,by decide +kernel⟩ ?hw ?hc
 case hw=>exact ⟨[.int 0,.int 0,.list [],.list [],.list [],.list [],.list []],by decide +kernel,by decide +kernel⟩
 case hc =>
  k_fillS
  refine L2.aK5 (r:=PySem.Challenge.rw_thirdsums_s02_part) (k:=16) (CX:=fun w=>L2.cxX Th.prog w) (ps:=["line","i","t","y","v","z","w"]) (sp:=Th.bq3) (by decide +kernel) (by decide +kernel) (by kernel_rfl) rfl rfl ⟨rfl,by decide,by decide⟩ (fun w h Y=>W.kIn_of Y) ?F (fun Pt K H xs a hP hw _ hx=>Th.bE5 a hP hw hx) Th.bQ6
  case F =>
   intro w mg fa h Y KX G hmg
   refine' Exists.elim (Th.bk9 (x:="part") (st:=Th.W7) KX G ?ma ?ml ?mc ?mlc ?mv ?mt ?mh) ?go
   (case ma=>k_is);(case ml=>k_is);(case mc=>k_is);(case mlc=>k_is)
   (case mv=>exact rfl)
   (case mt=>kernel_rfl);(case mh=>kernel_rfl)
   case go =>
   intro fd M
   refine Th.bc5 (w:=w) hmg M ?gG ?gF ?gX ?gR ?gE ?gY ?gT
   case gG =>
    constructor
    all_goals first | (refine' Th.bR5 KX G ?a;(case a=>k_is);done) | (refine' W.mg_none_of KX G ?a;(case a=>k_is);done) | (refine' Th.bR3 KX G ?m ?l ?e ?z;(case m=>k_is);(case l=>k_is);(case e=>kernel_rfl);(case z=>decide);done) | (refine' Th.bR4 KX G ?a;(case a=>k_is))
   case gF =>
    constructor
    all_goals (refine' Th.bR7 KX G ?a ?l ?c ?k;(case a=>k_is);(case l=>k_is);(case c=>k_is);(case k=>k_is))
   case gX =>
    refine' ⟨_,_,_,_,_,Th.aD1 KX G ?a1 ?e1 ?c1,Th.bK7 KX G ?a2 ?k2 ?i2 ?j2 ?l2 ?d2 ?q2 ?c2 ?z2,Th.aD1 KX G ?a3 ?e3 ?c3,Th.aD1 KX G ?a4 ?e4 ?c4,Th.aD1 KX G ?a5 ?e5 ?c5,?nd⟩
    (case a1=>k_is);(case e1=>kernel_rfl);(case c1=>kernel_rfl)
    (case a3=>k_is);(case e3=>kernel_rfl);(case c3=>kernel_rfl)
    (case a4=>k_is);(case e4=>kernel_rfl);(case c4=>kernel_rfl)
    (case a5=>k_is);(case e5=>kernel_rfl);(case c5=>kernel_rfl)
    (case a2=>k_is);(case k2=>k_is);(case i2=>k_is);(case j2=>k_is);(case l2=>k_is);(case d2=>k_is);(case q2=>k_is);(case c2=>kernel_rfl);(case z2=>kernel_rfl);(case nd=>decide)
   case gR =>
    refine' ⟨_,?c,?n1,?n2,?m0,?m1,?m2,?m3,?m4,?m5,?m6⟩
    (case c=>refine' Th.aD6 KX G ?a ?p1 ?p2 ?p3 ?p4 ?p5 ?p6;(case a=>k_is);(case p1=>k_is);(case p2=>k_is);(case p3=>k_is);(case p4=>k_is);(case p5=>k_is);(case p6=>k_is))
    (case n1=>(show W.findIn _ _ _=some none;k_is))
    (case n2=>(show W.findIn _ _ _=some none;k_is))
    (case m0=>refine' Th.T6 ?a ?i ?l ?c ?k;(case a=>k_is);(case i=>k_is);(case l=>k_is);(case c=>k_is);(case k=>k_is))
    (case m1=>refine' Th.T6 ?a ?i ?l ?c ?k;(case a=>k_is);(case i=>k_is);(case l=>k_is);(case c=>k_is);(case k=>k_is))
    (case m2=>refine' Th.T6 ?a ?i ?l ?c ?k;(case a=>k_is);(case i=>k_is);(case l=>k_is);(case c=>k_is);(case k=>k_is))
    (case m3=>refine' Th.T6 ?a ?i ?l ?c ?k;(case a=>k_is);(case i=>k_is);(case l=>k_is);(case c=>k_is);(case k=>k_is))
    (case m4=>refine' Th.T6 ?a ?i ?l ?c ?k;(case a=>k_is);(case i=>k_is);(case l=>k_is);(case c=>k_is);(case k=>k_is))
    (case m5=>refine' Th.T6 ?a ?i ?l ?c ?k;(case a=>k_is);(case i=>k_is);(case l=>k_is);(case c=>k_is);(case k=>k_is))
    (case m6=>refine' Th.T6 ?a ?i ?l ?c ?k;(case a=>k_is);(case i=>k_is);(case l=>k_is);(case c=>k_is);(case k=>k_is))
   case gE =>
    refine' ⟨_,?c,?m,?n1,?n2,?n3,?n4,?n5⟩
    (case c=>refine' Th.aD6 KX G ?a ?p1 ?p2 ?p3 ?p4 ?p5 ?p6;(case a=>k_is);(case p1=>k_is);(case p2=>k_is);(case p3=>k_is);(case p4=>k_is);(case p5=>k_is);(case p6=>k_is))
    (case m=>refine' Th.T6 ?a ?i ?l ?c ?k;(case a=>k_is);(case i=>k_is);(case l=>k_is);(case c=>k_is);(case k=>k_is))
    (case n1=>(show W.findIn _ _ _=some none;k_is))
    (case n2=>(show W.findIn _ _ _=some none;k_is))
    (case n3=>(show W.findIn _ _ _=some none;k_is))
    (case n4=>(show W.findIn _ _ _=some none;k_is))
    (case n5=>(show W.findIn _ _ _=some none;k_is))
   case gY =>
    refine' ⟨_,?c,?m,?n1,?n2⟩
    (case c=>refine' Th.aD6 KX G ?a ?p1 ?p2 ?p3 ?p4 ?p5 ?p6;(case a=>k_is);(case p1=>k_is);(case p2=>k_is);(case p3=>k_is);(case p4=>k_is);(case p5=>k_is);(case p6=>k_is))
    (case m=>refine' Th.T6 ?a ?i ?l ?c ?k;(case a=>k_is);(case i=>k_is);(case l=>k_is);(case c=>k_is);(case k=>k_is))
    (case n1=>(show W.findIn _ _ _=some none;k_is))
    (case n2=>(show W.findIn _ _ _=some none;k_is))
   case gT =>
    refine' ⟨_,?c,?m,?n1,?n2,?n3,?n4,?n5,?n6,?n7,?n8⟩
    (case c=>refine' Th.aD6 KX G ?a ?p1 ?p2 ?p3 ?p4 ?p5 ?p6;(case a=>k_is);(case p1=>k_is);(case p2=>k_is);(case p3=>k_is);(case p4=>k_is);(case p5=>k_is);(case p6=>k_is))
    (case m=>refine' Th.T6 ?a ?i ?l ?c ?k;(case a=>k_is);(case i=>k_is);(case l=>k_is);(case c=>k_is);(case k=>k_is))
    (case n1=>(show W.findIn _ _ _=some none;k_is))
    (case n2=>(show W.findIn _ _ _=some none;k_is))
    (case n3=>(show W.findIn _ _ _=some none;k_is))
    (case n4=>(show W.findIn _ _ _=some none;k_is))
    (case n5=>(show W.findIn _ _ _=some none;k_is))
    (case n6=>(show W.findIn _ _ _=some none;k_is))
    (case n7=>(show W.findIn _ _ _=some none;k_is))
    (case n8=>(show W.findIn _ _ _=some none;k_is))
