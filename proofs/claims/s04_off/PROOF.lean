import PyProof.Rows.All
import Wide.All
import OpenK.AllK
import Wide.FinOn
import PyProof.EqAt
import PyProof.EqKinds
import PyProof.TupleCall
import KE.BitLaws
import Open.SpecLaws
import KE.OsHead
import KE.OsGo
import PyProof.Rows.StrDigitsNeg
import PyProof.Rows.StrOr
import PyProof.Rows.Digits
import PyProof.Rows.RuleM_int
import PyProof.FString
import KE.KLam
import PyWqbbbo
import KE.KEqSeq
import Open.Pieces
import PySem.Challenge.RW_thirdsums_s04_off
set_option Elab.async false
set_option linter.all false
set_option maxRecDepth 100000
section
set_option maxRecDepth 1000000
namespace Th
open PySem PySem.W PyProof.Rows
def gV (tb:String->Option Builtin)(p:Program)(w:World)(n₀:Nat)(ann:Option Value):Nat->SharedT->Thread->Option SharedT
 |0,_,_=>none
 |n+1,s,t=>match through t with
  |true=>some s
  |false=>match stepOk n₀ ann t with
   |false=>none
   |true=>match stepT (denote tb) p w s t with
    |some (s',t')=>gV tb p w n₀ ann n s' t'
    |none=>none
theorem jX {tb:String->Option Builtin}{p:Program}{w:World}{n₀:Nat}{ann:Option Value}:∀ {n:Nat}{s s':SharedT}{t:Thread},gV tb p w n₀ ann n s t=some s'->topRun tb p w n₀ ann n s.abs t=some s'.abs
 |0,_,_,_,h=>by cases h
 |n+1,s,s',t,h=>by
  unfold gV at h;unfold topRun;cases he:through t with
  |true=>rw[he]at h;cases h;rfl
  |false =>
   rw[he]at h;cases hk:stepOk n₀ ann t with
   |false=>rw[hk]at h;cases h
   |true =>
    rw[hk]at h;cases hs:stepT (denote tb) p w s t with
    |none=>rw[hs]at h;cases h
    |some r=>obtain⟨s₂,t₂⟩:=r;rw[hs]at h;rw[stepT_spec hs];exact jX h
def grow:List Obj->BT->Nat->Option BT
 |[],t,_=>some t
 |o::l,t,n=>match ((t.ins n o).get n).isSome with
  |true=>grow l (t.ins n o) (n+1)
  |false=>none
theorem sD {life:Life}:∀ {l:List Obj}{t T:BT}{n:Nat}{xs:List Obj},grow l t n=some T->absHeap t n life=⟨xs.toArray,life⟩->absHeap T (n+l.length) life=⟨(xs++l).toArray,life⟩
 |[],t,T,n,xs,h,e=>by cases h;rw[List.append_nil];exact e
 |o::l,t,T,n,xs,h,e=>by
  unfold grow at h;cases hg:((t.ins n o).get n).isSome with
  |false=>rw[hg]at h;cases h
  |true =>
   rw[hg]at h;have e2:absHeap (t.ins n o) (n+1) life=⟨(xs++[o]).toArray,life⟩:=by
    rw[absHeap_ins hg,e];show(⟨xs.toArray.push o,life⟩:Heap)=_;rw[List.push_toArray]
   have:=sD (l:=l) h e2;rw[List.length_cons,show n+(l.length+1)=n+1+l.length by omega,this,List.append_assoc];rfl
def BY (tb:String->Option Builtin)(p:Program)(w:World)(N:Nat):Option Shared:=(fencedOpening tb p w N).bind λs₀=>match s₀.heap.isNs mainGlobals&&s₀.gens.size==0 with
 |true=>(grow s₀.heap.objs.toList .nil 0).bind λT=>(gV tb p w s₀.heap.objs.size (s₀.heap.nsMap mainGlobals "__annotations__") N ⟨T,s₀.heap.objs.size,s₀.heap.life,s₀.gens,s₀.drawn,s₀.toks,s₀.os⟩ (topStub p)).bind λs₁ =>
   match staticsOk (importedModules p.main.body) s₀.heap s₁.abs.heap&&namesBound p s₁.abs.heap&&gensDone s₁.abs&&laidKept s₀.heap s₁.abs.heap with
   |true=>some s₁.abs
   |false=>none
 |false=>none
theorem ze {tb:String->Option Builtin}{p:Program}{w:World}{N:Nat}{s:Shared}(h:BY tb p w N=some s):openEnds tb p w N=some s:=by
 unfold BY at h;unfold openEnds;obtain⟨s₀,e0,h⟩:=Option.bind_eq_some_iff.mp h;rw[e0];show topFrom tb p w N s₀=some s;unfold topFrom;cases hg:(s₀.heap.isNs mainGlobals&&s₀.gens.size==0)with
 |false=>rw[hg]at h;cases h
 |true =>
  rw[hg]at h;dsimp only at h⊢;obtain⟨T,eT,h⟩:=Option.bind_eq_some_iff.mp h;obtain⟨s₁,e1,h⟩:=Option.bind_eq_some_iff.mp h;have ha:absHeap T s₀.heap.objs.size s₀.heap.life=s₀.heap:=by
   have:=sD (life:=s₀.heap.life) (xs:=[]) eT rfl;rw[Nat.zero_add,List.nil_append,Array.length_toList]at this;rw[this]
  have:=jX e1;rw[show(SharedT.abs ⟨T,s₀.heap.objs.size,s₀.heap.life,s₀.gens,s₀.drawn,s₀.toks,s₀.os⟩)=s₀ from by unfold SharedT.abs;dsimp only;rw[ha]]at this;rw[this];dsimp only[Option.bind_some];exact h
end Th

open PySem PySem.W PyProof.Rows
def Th.tp (i:Nat):Stmt:=PySem.Challenge.pw_thirdsums_s04_off.main.body.getD i (.Pass ⟨0,0,0,0⟩)
def Th.vw:Program:={ PySem.Challenge.pw_thirdsums_s04_off with main:={ PySem.Challenge.pw_thirdsums_s04_off.main with body:=[Th.tp 1,Th.tp 2,Th.tp 3,Th.tp 4,Th.tp 5,Th.tp 6,Th.tp 7,Th.tp 8,Th.tp 9,Th.tp 11,Th.tp 12,Th.tp 13,Th.tp 14,Th.tp 15,Th.tp 17,Th.tp 18,Th.tp 19,Th.tp 20,Th.tp 21,Th.tp 22,Th.tp 23,Th.tp 24,Th.tp 25,Th.tp 26,Th.tp 27,Th.tp 29,Th.tp 30,Th.tp 31,Th.tp 32,Th.tp 33,Th.tp 34,Th.tp 35,Th.tp 36,Th.tp 37,Th.tp 38,Th.tp 39,Th.tp 41,Th.tp 42,Th.tp 43,Th.tp 44,Th.tp 45,Th.tp 47,Th.tp 48,Th.tp 49,Th.tp 50,Th.tp 52,Th.tp 53,Th.tp 54,Th.tp 55,Th.tp 56,Th.tp 57,Th.tp 58,Th.tp 59,Th.tp 60,Th.tp 61,Th.tp 62,Th.tp 63,Th.tp 64,Th.tp 65,Th.tp 67,Th.tp 68,Th.tp 69,Th.tp 70,Th.tp 71,Th.tp 72,Th.tp 73,Th.tp 74,Th.tp 75,Th.tp 76,Th.tp 77,Th.tp 78,Th.tp 79,Th.tp 80,Th.tp 81,Th.tp 82,Th.tp 83,Th.tp 84,Th.tp 85,Th.tp 86,Th.tp 87,Th.tp 88,Th.tp 89,Th.tp 90,Th.tp 91,Th.tp 93,Th.tp 94,Th.tp 95,Th.tp 97,Th.tp 98,Th.tp 99,Th.tp 100,Th.tp 101] } }
local macro_rules | `(tactic| o_headS $H) => `(tactic| contradiction)
theorem Th.dummy:False->PySem.Challenge.rw_thirdsums_s04_off.Holds:=by
 intro hf
 w_on;k_headS
def Th.as:List Addr:=[2,3,15,16,17,19,20,22,23,24,26,27,29,30,31,33,34,36,37,38,40,41,43,44,45,47,48,50,51,52,54,55,57,58,59,61,62,64,65,66,73,74,75,76,79,86,88,89,91,92,93,94,95,96,99,106,107,108,109,112,119,120,121,122,125,132,133,134,135,138,140,141,143,144,145,147,148,150,151,152,154,155,157,158,159,161,162,164,165,166,168,169,171,172,173,175,176,178,179,180,182,183,185,186,187,189,190,192,193,194,196,197,199,200,201,203,204,206,207,208,210,211,213,214,215,217,218,220,221,222,224,225,227,228,229,232,233,234,237,238,239,241,242,244,245,246,249,250,258,260,261,263,264,265,266,267,268,269,272,274,275,277,278,279,281,282,284,285,286,288,289,291,292,293,295,296,298,299,300,302,303,305,306,307,309,310,312,313,314,316,317,319,320,321,324,325,326,327,329,330,332,333,334,336,337,339,340,341,343,344,346,347,348,351,352,353,355,356,358,359,360,362,363,365,366,367,369,370,372,373,374,376,377,379,380,388,390,391,393,394,395,396,397,398,399,409,411,412,414,415,416,417,418,419,420,430,432,433,435,436,437,439,440,442,443,444,446,447,449,450,451,453,454,456,457,458,460,461,463,464,465,467,468,470,471,472,474,475,477,478,479,480,481,482,483,486,488,489,491,492,493,495,496,498,499,500,502,503,505,506,507,509,510,512,513,514,516,517,519,520,521,523,524,526,527,528,530,531,533,534,535,537,538,540,541,542,544,545,547,548,549,551,552,554,555,556,558,559,561,562,563,565,566,568,569,570,572,573,575,576,577,579,580,582,583,584,586,587,589,590,591,593,594,596,597,598,601,602,603,605,606,608,609,610,613,614,615,617,618,620,621]
theorem Th.as_eq:∀ P,Th.as=(Th.dummy.heap_1 P).map (·.1):=λP=>by kernel_rfl
def Th.run (w:World):=Th.BY treeTable PySem.Challenge.pw_thirdsums_s04_off w 8672
def Th.runA (w:World):=(Th.run w).map λs=>seen ((recsOf Th.vw).map (·.name)) (ownsOf Th.vw) [] { s with gens:=#[] }
theorem Th.runA_self:Th.runA=Th.runA:=rfl
lay_quick Th.runA
name_quick thA for Th.runA by Th.runA_self
theorem Th.leftA:∀ w,W.Fast.thA w=some (expectedOf Th.vw):=λw=>by kernel_rfl
def Th.runB (w:World):=(Th.run w).map λs=>s.heap.keysOk (looseW Th.vw []) ((recsOf Th.vw).map (·.name)) ((litsOf Th.vw).map (·.1)) ((clssOf Th.vw (looseW Th.vw [])).map (·.name))&&s.heap.accountedOkI (importedModules PySem.Challenge.pw_thirdsums_s04_off.main.body)&&s.heap.isNs mainGlobals&&s.heap.isNs builtinsNs&&tablesOk Th.vw s.heap&&(xlAt Th.vw [] s&&recOk [] s)&&(if true then s.gens.size==0 else !leftWithCleanup s.gens)
theorem Th.runB_self:Th.runB=Th.runB:=rfl
lay_quick Th.runB
name_quick thB for Th.runB by Th.runB_self
theorem Th.leftB:∀ w,W.Fast.thB w=some (true):=λw=>by kernel_rfl
def Th.runC (w:World):=(Th.run w).map λs=>(s.heap.bltView,tabsOk Th.vw s)
theorem Th.runC_self:Th.runC=Th.runC:=rfl
lay_quick Th.runC
name_quick thC for Th.runC by Th.runC_self
theorem Th.leftC:∀ w,W.Fast.thC w=some (bltViewBooted,true):=λw=>by kernel_rfl
def Th.runE (w:World):=(Th.run w).map λs=>(pinSeenD Th.vw (drecsOf Th.vw) s,plainSeenE Th.vw (looseW Th.vw []) s)
theorem Th.runE_self:Th.runE=Th.runE:=rfl
lay_quick Th.runE
name_quick thE for Th.runE by Th.runE_self
theorem Th.leftE:∀ w,W.Fast.thE w=some (pinGoodD (drecsOf Th.vw),plainGoodE Th.vw (looseW Th.vw [])):=λw=>by kernel_rfl
def Th.runF (w:World):=(Th.run w).map λs=>(plainSeenD Th.vw [] s,wideSeen Th.vw s,clsSeenW Th.vw [] s)
theorem Th.runF_self:Th.runF=Th.runF:=rfl
lay_quick Th.runF
name_quick thF for Th.runF by Th.runF_self
theorem Th.leftF:∀ w,W.Fast.thF w=some (plainGoodD Th.vw [],wideGood Th.vw,clsGoodW Th.vw []):=λw=>by kernel_rfl
def Th.runD (w:World):=(Th.run w).map λs=>Th.as.map s.heap.get?
theorem Th.runD_self:Th.runD=Th.runD:=rfl
lay_quick Th.runD
name_quick thD for Th.runD by Th.runD_self
theorem Th.leftD:∀ w,W.Fast.thD w=some ((Th.dummy.heap_1 w.params).map λp=>some p.2):=λw=>by kernel_rfl
theorem Th.left_o:LeftO PySem.Challenge.pw_thirdsums_s04_off Th.vw [] (λs=>xlAt Th.vw [] s&&recOk [] s) (Hook.obs (kHook Th.dummy.heap_1 Th.as Th.as_eq)) (Hook.val (kHook Th.dummy.heap_1 Th.as Th.as_eq)) 8672:=λw=>by
 show(openEnds treeTable PySem.Challenge.pw_thirdsums_s04_off w 8672).map (λs=>(openSeen Th.vw [] (importedModules PySem.Challenge.pw_thirdsums_s04_off.main.body) (λs=>xlAt Th.vw [] s&&recOk [] s) true s,Th.as.map s.heap.get?))=some (openGood Th.vw [],(Th.dummy.heap_1 w.params).map λp=>some p.2);have h1:=Th.leftA w;have h2:=Th.leftB w;have h3:=Th.leftC w;have h4:=Th.leftD w;have h5:=Th.leftE w;have h6:=Th.leftF w;rw[<-W.Fast.thA_eq]at h1;rw[<-W.Fast.thB_eq]at h2;rw[<-W.Fast.thC_eq]at h3;rw[<-W.Fast.thD_eq]at h4;rw[<-W.Fast.thE_eq]at h5;rw[<-W.Fast.thF_eq]at h6;unfold Th.runA at h1;unfold Th.runB at h2;unfold Th.runC at h3;unfold Th.runD at h4;unfold Th.runE at h5;unfold Th.runF at h6;obtain⟨s,e,f1⟩:=Option.map_eq_some_iff.mp h1;rw[e]at h2 h3 h4 h5 h6;have f2:=Option.some.inj h2;have f3:=Option.some.inj h3;have f4:=Option.some.inj h4;have f5:=Option.some.inj h5;have f6:=Option.some.inj h6;rw[Th.ze e];show some _=some _;rw[<-f4];refine congrArg (λz=>some (z,Th.as.map s.heap.get?)) ?_;unfold openSeen openGood;rw[<-f1];refine Prod.ext rfl (Prod.ext (congrArg (·.1) f3) (Prod.ext f2 ?_));exact Prod.ext (congrArg (·.2) f3) (Prod.ext (congrArg (·.1) f5) (Prod.ext (congrArg (·.2) f5) f6))
end
namespace Ma
open Ln Ln.Text
noncomputable def fX (c:UInt8):Bool:=c==32||c==9||c==10||c==13
noncomputable def F7:Bool->Bytes->Nat
 |_,[]=>0
 |cm,c::r =>
  let c1:=if c=35 then true else cm
  let c2:=if c=10 then false else c1
  if(!c2&&!fX c)=true then 0 else 1+F7 c2 r
theorem kf:∀ r:Bytes,F7 true r=(r.takeWhile λ(x:UInt8)=>x !=10).length+F7 false (r.drop (r.takeWhile λ(x:UInt8)=>x !=10).length)
 |[]=>rfl
 |c::r=>by
  by_cases h:c=10
  ·subst h;simp[F7,fX]
  ·have ih:=kf r;have h1:(c !=10)=true:=by simpa using h
   simp only[List.takeWhile_cons,h1,if_true,List.length_cons,List.drop_succ_cons];by_cases h2:c=35
   ·subst h2;simp only[F7];simp;omega
   ·simp only[F7,h2,h,if_false];simp;omega
theorem cD:∀ (f:Nat) (b:Bytes),b.length<f->blanks f b=F7 false b
 |0,b,h=>by omega
 |f+1,[],h=>rfl
 |f+1,c::r,h=>by
  have hr:r.length<f:=by simp at h;omega
  by_cases h1:c=35
  ·subst h1;show 1+_+blanks f _=1+F7 true r;rw[cD f _ (by simp;omega),kf];omega
  ·by_cases h2:c=32\/c=9\/c=10\/c=13
   ·have e:blanks (f+1) (c::r)=1+blanks f r:=by simp only[blanks,h1,if_false,h2,if_true]
    rw[e,cD f r hr];have e2:fX c=true:=by simp only[fX,Bool.or_eq_true,beq_iff_eq];rcases h2 with h|h|h|h<;>simp[h]
    simp only[F7,h1,if_false,e2];by_cases h3:c=10<;>simp[h3]
   ·have e:blanks (f+1) (c::r)=0:=by simp only[blanks,h1,if_false,h2]
    rw[e];have e2:fX c=false:=by
     simp only[fX,Bool.or_eq_false_iff,beq_eq_false_iff_ne];simp only[not_or]at h2;exact⟨⟨⟨h2.1,h2.2.1⟩,h2.2.2.1⟩,h2.2.2.2⟩
    have h3:¬ c=10:=by intro q;exact h2 (.inr (.inr (.inl q)))
    simp[F7,h1,e2,h3]
theorem rz:∀ (cm:Bool) (b:Bytes),F7 cm b<=b.length
 |_,[]=>Nat.le_refl _
 |cm,c::r=>by
  have e:F7 cm (c::r)=if(!(if c=10 then false else if c=35 then true else cm)&&!fX c)=true then 0 else 1+F7 (if c=10 then false else if c=35 then true else cm) r:=rfl
  rw[e];generalize(if c=10 then false else if c=35 then true else cm)=d;have:=rz d r;by_cases h:(!d&&!fX c)=true
  ·rw[if_pos h];exact Nat.zero_le _
  ·rw[if_neg h];simp only[List.length_cons];omega
noncomputable def u0 (b:Bytes)(p:Nat):Nat:=p+F7 false (b.drop p)
noncomputable def i9 (b:Bytes)(p:Nat):Tok×Nat:=tokenIn (b.drop (u0 b p))
noncomputable def K1:Tok->Bool
 |.end_=>true
 |.broken=>true
 |_=>false
noncomputable def Lx (b:Bytes)(p:Nat):List Lex:=lexes ((b.drop p).length+1) p (b.drop p)
abbrev nA (b:Bytes):Bytes:=b.takeWhile isDigit
abbrev nR (b:Bytes):Bytes:=b.drop (nA b).length
abbrev nP (b:Bytes):Bool:=(nR b).head?==some 46
abbrev nZ (b:Bytes):Bytes:=if nP b=true then((nR b).drop 1).takeWhile isDigit else[]
abbrev nN (b:Bytes):Nat:=(nA b).length+(if nP b=true then 1+(nZ b).length else 0)
abbrev DN (b:Bytes):Prop:=(!((b.drop (nN b)).head?.any λ(c:UInt8)=>isLetter c||c==46))=true/\(nA b).length+(nZ b).length<=DIGITS/\(nP b=false\/nZ b≠[])
theorem K3 (b:Bytes):numberIn b=if DN b then(.num (natural (nA b++nZ b)) (nZ b).length (nP b),nN b)else(.broken,0):=rfl
theorem Bg (b:Bytes):nN b<=b.length:=by
 have t1:(nA b).length<=b.length:=(List.takeWhile_prefix _).length_le;cases hp:nP b with
 |false=>simp only[nN,hp];simpa using t1
 |true =>
  have q:0<(nR b).length:=by
   cases z:nR b with
   |nil=>simp only[nP,z]at hp;cases hp
   |cons=>simp
  have t2:(((nR b).drop 1).takeWhile isDigit).length<=((nR b).drop 1).length:=(List.takeWhile_prefix _).length_le;simp only[nN,nZ,hp,if_true];simp only[List.length_drop]at q t2⊢;omega
theorem DL (b:Bytes):(numberIn b).2<=b.length:=by
 rw[K3];by_cases h:DN b
 ·rw[if_pos h];exact Bg b
 ·rw[if_neg h];exact Nat.zero_le _
theorem ll (b:Bytes)(h:K1 (tokenIn b).1=false):1<=(tokenIn b).2/\(tokenIn b).2<=b.length:=by
 cases b with
 |nil=>simp[tokenIn,K1]at h
 |cons c r =>
  by_cases h1:isLetter c=true
  ·have e1:((c::r).takeWhile λ(x:UInt8)=>isLetter x||isDigit x)=c::(r.takeWhile λ(x:UInt8)=>isLetter x||isDigit x):=by simp[List.takeWhile_cons,h1]
   have t1:(r.takeWhile λ(x:UInt8)=>isLetter x||isDigit x).length<=r.length:=(List.takeWhile_prefix _).length_le;simp only[tokenIn,h1,if_true]at h⊢;split at h
   ·simp[K1]at h
   ·rename_i h2
    rw[if_neg h2];split<;>simp only[e1,List.length_cons]<;>omega
  ·by_cases h2:isDigit c=true
   ·have e:tokenIn (c::r)=numberIn (c::r):=by simp only[tokenIn,h1,h2,if_true];rfl
    rw[e]at h⊢;refine⟨?_,DL _⟩;have t:1<=(nA (c::r)).length:=by simp[nA,List.takeWhile_cons,h2]
    rw[K3]at h⊢;by_cases h3:DN (c::r)
    ·rw[if_pos h3];show 1<=(nA (c::r)).length+_;omega
    ·rw[if_neg h3]at h;cases h
   ·by_cases h3:isMark c=true
    ·simp only[tokenIn,h1,h2,h3,if_true];simp
    ·simp[tokenIn,h1,h2,h3,K1]at h
theorem jj:∀ (f:Nat) (i:Nat) (r:Bytes),r.length<f->lexes f i r=lexes (r.length+1) i r:=by
 have key:∀ (n f g i:Nat) (r:Bytes),r.length<=n->r.length<f->r.length<g->lexes f i r=lexes g i r:=by
  intro n
  induction n with
  |zero =>
   intro f g i r hn hf hg;have:r=[]:=by cases r with|nil=>rfl|cons=>simp at hn
   subst this;cases f with
   |zero=>omega
   |succ f=>cases g with
    |zero=>omega
    |succ g=>rfl
  |succ n ih =>
   intro f g i r hn hf hg;cases f with
   |zero=>omega
   |succ f=>cases g with
    |zero=>omega
    |succ g =>
     have e:∀ f,lexes (f+1) i r=⟨i+blanks (r.length+1) r,(tokenIn (r.drop (blanks (r.length+1) r))).1⟩::(match (tokenIn (r.drop (blanks (r.length+1) r))).1 with
      |.end_=>[]
      |.broken=>[]
      |_=>lexes f (i+blanks (r.length+1) r+(tokenIn (r.drop (blanks (r.length+1) r))).2) ((r.drop (blanks (r.length+1) r)).drop (tokenIn (r.drop (blanks (r.length+1) r))).2)):=λf=>rfl
     rw[e,e];have tp:=ll (r.drop (blanks (r.length+1) r));have hl:∀ (q:K1 (tokenIn (r.drop (blanks (r.length+1) r))).1=false),((r.drop (blanks (r.length+1) r)).drop (tokenIn (r.drop (blanks (r.length+1) r))).2).length+1<=r.length:=λq=>by
      have:=tp q;simp only[List.length_drop]at this⊢;omega
     generalize tokenIn (r.drop (blanks (r.length+1) r))=x at hl;obtain⟨x1,x2⟩:=x;cases x1 with
     |end_=>rfl
     |broken=>rfl
     |word w=>have:=hl rfl;dsimp only at this⊢;rw[ih f g _ _ (by omega) (by omega) (by omega)]
     |name w=>have:=hl rfl;dsimp only at this⊢;rw[ih f g _ _ (by omega) (by omega) (by omega)]
     |num n k p=>have:=hl rfl;dsimp only at this⊢;rw[ih f g _ _ (by omega) (by omega) (by omega)]
     |mark c=>have:=hl rfl;dsimp only at this⊢;rw[ih f g _ _ (by omega) (by omega) (by omega)]
 intro f i r h;exact key r.length f _ i r (Nat.le_refl _) h (Nat.lt_succ_self _)
theorem D8 (b:Bytes)(p:Nat):Lx b p=⟨u0 b p,(i9 b p).1⟩::(if K1 (i9 b p).1=true then[]else Lx b (u0 b p+(i9 b p).2)):=by
 unfold Lx;generalize hr:b.drop p=r;have e:lexes (r.length+1) p r=⟨p+blanks (r.length+1) r,(tokenIn (r.drop (blanks (r.length+1) r))).1⟩::(match (tokenIn (r.drop (blanks (r.length+1) r))).1 with
      |.end_=>[]
      |.broken=>[]
      |_=>lexes r.length (p+blanks (r.length+1) r+(tokenIn (r.drop (blanks (r.length+1) r))).2) ((r.drop (blanks (r.length+1) r)).drop (tokenIn (r.drop (blanks (r.length+1) r))).2)):=rfl
 have es:blanks (r.length+1) r=F7 false r:=cD _ _ (Nat.lt_succ_self _);have e1:u0 b p=p+F7 false r:=by unfold u0;rw[hr]
 have e2:i9 b p=tokenIn (r.drop (F7 false r)):=by unfold i9;rw[e1,<-hr,List.drop_drop]
 have tp:=ll (r.drop (F7 false r));rw[e,es,e1,e2];have hl:∀ (q:K1 (tokenIn (r.drop (F7 false r))).1=false),lexes r.length (p+F7 false r+(tokenIn (r.drop (F7 false r))).2) ((r.drop (F7 false r)).drop (tokenIn (r.drop (F7 false r))).2)=lexes ((b.drop (p+F7 false r+(tokenIn (r.drop (F7 false r))).2)).length+1) (p+F7 false r+(tokenIn (r.drop (F7 false r))).2) (b.drop (p+F7 false r+(tokenIn (r.drop (F7 false r))).2)):=λq=>by
  have:=tp q;have z:(r.drop (F7 false r)).drop (tokenIn (r.drop (F7 false r))).2=b.drop (p+F7 false r+(tokenIn (r.drop (F7 false r))).2):=by
   rw[List.drop_drop,<-hr,List.drop_drop];congr 1;omega
  rw[z];refine jj _ _ _ ?_;rw[<-z];simp only[List.length_drop]at this⊢;omega
 generalize tokenIn (r.drop (F7 false r))=x at hl;obtain⟨x1,x2⟩:=x;cases x1 with
 |end_=>rfl
 |broken=>rfl
 |word w=>exact congrArg _ (hl rfl)
 |name w=>exact congrArg _ (hl rfl)
 |num n k p=>exact congrArg _ (hl rfl)
 |mark c=>exact congrArg _ (hl rfl)
theorem tD (b:Bytes):tokens b=Lx b 0:=by
 unfold tokens Lx;rw[jj _ _ _ (by omega)];rfl
inductive K where
 |w (s:String)|m (c:UInt8)|name|whole|pointed|fin|none
 deriving DecidableEq
noncomputable def y4:K->Tok->Bool
 |.w s,t=>t==.word (ascii s)
 |.m c,t=>t==.mark c
 |.name,.name _=>true
 |.whole,.num _ _ false=>true
 |.pointed,.num _ _ true=>true
 |.fin,t=>t==.end_
 |.none,t=>t==.broken
 |_,_=>false
theorem d5 {α β:Type}(m:P α)(k:α->P β)(l:List Lex):(m >>= k) l=match m l with
  |.error e=>.error e
  |.ok (a,l')=>k a l':=by
 show(StateT.bind m k) l=_;unfold StateT.bind;show Except.bind (m l) _=_;cases m l with
 |error e=>rfl
 |ok x=>rfl
theorem cj {α:Type}(a:α)(l:List Lex):(pure a:P α) l=.ok (a,l):=rfl
theorem E9 (l:List Lex):pass l=.ok ((),l.drop 1):=rfl
theorem F8 (b:Bool)(k p:Nat)(l:List Lex):need b k p l=if b=true then .ok ((),l)else .error (k,p):=by
 unfold need;cases b<;>rfl
theorem D5 (x:Lex)(r:List Lex):peek (x::r)=if x.tok=.broken then .error (1,x.at_)else .ok (x,x::r):=by
 show(match (x::r)with|x::_=>if x.tok=.broken then halt 1 x.at_ else pure x|[]=>halt 2 0:P Lex) (x::r)=_;by_cases h:x.tok=.broken
 ·simp only[h,if_true];rfl
 ·simp only[h,if_false];rfl
noncomputable def hd:P Lex:=λl=>match l with
 |x::_=>.ok (x,l)
 |[]=>.error (2,0)
noncomputable def sees (k:K):P Bool:=λl=>match l with
 |x::_=>.ok (y4 k x.tok,l)
 |[]=>.error (2,0)
noncomputable def refuse {α:Type}(n:Nat):P α:=λl=>match l with
 |x::_=>.error (n,x.at_)
 |[]=>.error (2,0)
noncomputable def expect (ks:List K):P Unit:=λl=>match l with
 |x::_=>if x.tok=.broken then .error (1,x.at_)else if(ks.any λk=>y4 k x.tok)=true then .ok ((),l)else .error (2,x.at_)
 |[]=>.error (2,0)
noncomputable def A4 (k:K):P Tok:=λl=>match expect [k] l with
 |.error e=>.error e
 |.ok _=>match l with
  |x::r=>.ok (x.tok,r)
  |[]=>.error (2,0)
noncomputable def bJ {α:Type}(k:P α):Prop:=∀ x r,x.tok=.broken->k (x::r)=.error (1,x.at_)
noncomputable def dN:Tok->Nat
 |.num n _ _=>n
 |_=>0
noncomputable def Fz:Tok->Nat
 |.num _ k _=>k
 |_=>0
noncomputable def eJ:P Rat:=do
 let t ← A4 .pointed
 pure ((dN t:Rat)/(10^Fz t:Nat))
noncomputable def C2:P Rat:=do
 expect [.whole,.pointed]
 if(← sees .pointed)=true then eJ
 else do
  let t ← A4 .whole
  if(← sees (.m 47))=false then pure (dN t:Rat)
  else do
   pass
   expect [.whole]
   let y ← hd
   if dN y.tok=0 then refuse 6
   else do
    pass
    pure ((dN t:Rat)/(dN y.tok:Rat))
noncomputable def X8:P Rat:=do
 if(← sees (.m 45))=false then C2
 else do
  pass
  let q ← C2
  pure (-q)
noncomputable def D9 (bad:Bool)(ks:List K):P Unit:=do
 expect ks
 if bad=true then refuse 6 else pure ()
noncomputable def X9 (c:UInt8):P Rat:=do
 let q ← C2
 D9 (decide (q<1)) [.m c]
 pass
 pure q
noncomputable def U2:P Rat:=do
 expect [.w "flat",.w "curve",.w "radius"]
 if(← sees (.w "flat"))=true then do pass;pure 0
 else if(← sees (.w "curve"))=true then do pass;X8
 else do
  pass
  let r ← X8
  D9 (decide (r=0)) [.w "conic",.w "clear",.m 59]
  pure (1/r)
noncomputable def Y0:P Rat:=do
 if(← sees (.w "conic"))=false then pure 0
 else do
  pass
  X8
theorem B7 (k:K)(x:Lex)(r:List Lex):sees k (x::r)=.ok (y4 k x.tok,x::r):=rfl
theorem sC (x:Lex)(r:List Lex):hd (x::r)=.ok (x,x::r):=rfl
theorem B5 (ks:List K)(x:Lex)(r:List Lex):expect ks (x::r)=if x.tok=.broken then .error (1,x.at_)else if(ks.any λk=>y4 k x.tok)=true then .ok ((),x::r)else .error (2,x.at_):=rfl
theorem D7 (k:K)(x:Lex)(r:List Lex):A4 k (x::r)=if x.tok=.broken then .error (1,x.at_)else if y4 k x.tok=true then .ok (x.tok,r)else .error (2,x.at_):=by
 show(match expect [k] (x::r)with
  |.error e=>(.error e:Except Fault (Tok×List Lex))
  |.ok _=>.ok (x.tok,r))=_
 rw[B5];by_cases h:x.tok=.broken
 ·rw[if_pos h,if_pos h]
 ·rw[if_neg h,if_neg h];cases z:y4 k x.tok<;>simp[z]
theorem S0 (s:String)(x:Lex)(r:List Lex):word s (x::r)=if x.tok=.broken then .error (1,x.at_)else if y4 (.w s) x.tok=true then .ok (x.at_,r)else .error (2,x.at_):=by
 unfold word;rw[d5,D5];by_cases h:x.tok=.broken
 ·rw[if_pos h,if_pos h]
 ·rw[if_neg h,if_neg h];dsimp only;rw[d5,F8];show _=if(x.tok==.word (ascii s))=true then _ else _
  cases z:(x.tok==.word (ascii s))<;>rfl
theorem cU (c:UInt8)(x:Lex)(r:List Lex):mark c (x::r)=if x.tok=.broken then .error (1,x.at_)else if y4 (.m c) x.tok=true then .ok (x.at_,r)else .error (2,x.at_):=by
 unfold mark;rw[d5,D5];by_cases h:x.tok=.broken
 ·rw[if_pos h,if_pos h]
 ·rw[if_neg h,if_neg h];dsimp only;rw[d5,F8];show _=if(x.tok==.mark c)=true then _ else _
  cases z:(x.tok==.mark c)<;>rfl
theorem bG (c:UInt8)(x:Lex)(r:List Lex):isMarkNext c (x::r)=if x.tok=.broken then .error (1,x.at_)else .ok (y4 (.m c) x.tok,x::r):=by
 unfold isMarkNext;rw[d5,D5];by_cases h:x.tok=.broken
 ·rw[if_pos h,if_pos h]
 ·rw[if_neg h,if_neg h];rfl
theorem A5 (s:String)(x:Lex)(r:List Lex):isWordNext s (x::r)=if x.tok=.broken then .error (1,x.at_)else .ok (y4 (.w s) x.tok,x::r):=by
 unfold isWordNext;rw[d5,D5];by_cases h:x.tok=.broken
 ·rw[if_pos h,if_pos h]
 ·rw[if_neg h,if_neg h];rfl
theorem O7 (k:K)(h:k≠.none):y4 k .broken=false:=by
 cases k with
 |none=>exact absurd rfl h
 |_=>rfl
theorem oY {α:Type}(q:K)(k:Tok->P α):bJ (A4 q >>= k):=λx r h=>by
 rw[d5,D7,if_pos h]
theorem qA {α:Type}(c:UInt8)(k:Nat->P α):bJ (mark c >>= k):=λx r h=>by
 rw[d5,cU,if_pos h]
theorem Z7 {α:Type}(k:Rat->P α)(hk:∀ q,bJ (k q)):(C2 >>= k)=(number >>= k):=by
 funext l
 rw[d5,d5];cases l with
 |nil=>rfl
 |cons x r =>
  unfold C2 number;rw[d5,d5,B5,D5];by_cases h:x.tok=.broken
  ·rw[if_pos h,if_pos h]
  ·rw[if_neg h,if_neg h];obtain⟨p,t⟩:=x;cases t with
   |num n z pt =>
    cases pt with
    |true=>rfl
    |false =>
     dsimp only;rw[show(([K.whole,K.pointed].any λk=>y4 k (Tok.num n z false))=true) from rfl,if_pos rfl];dsimp only;rw[d5,B7];dsimp only;rw[if_neg (show ¬ (y4 .pointed (Tok.num n z false)=true) from Bool.false_ne_true),d5,D7,if_neg h];dsimp only;rw[if_pos (show y4 .whole (Tok.num n z false)=true from rfl),d5,E9];dsimp only;rw[d5,d5];cases r with
     |nil=>rfl
     |cons y r =>
      dsimp only[List.drop];rw[B7,bG];by_cases hy:y.tok=.broken
      ·rw[if_pos hy,hy,O7 _ (by decide)];dsimp only;rw[if_pos rfl,cj];exact hk _ y r hy
      ·rw[if_neg hy];dsimp only;cases hm:y4 (.m 47) y.tok with
       |false=>rfl
       |true =>
        rw[if_neg (by decide),if_pos rfl,d5,d5,E9];dsimp only[List.drop];rw[d5,d5];cases r with
        |nil=>rfl
        |cons u r =>
         rw[B5,D5];by_cases hu:u.tok=.broken
         ·rw[if_pos hu,if_pos hu]
         ·rw[if_neg hu,if_neg hu];obtain⟨p2,t2⟩:=u;cases t2 with
          |num n2 z2 pt2 =>
           cases pt2 with
           |true=>rfl
           |false =>
            dsimp only;rw[show(([K.whole].any λk=>y4 k (Tok.num n2 z2 false))=true) from rfl,if_pos rfl];dsimp only;rw[d5,sC,d5,E9];dsimp only;rw[d5,F8];by_cases hz:n2=0
            ·subst hz;rfl
            ·rw[if_neg (show ¬ (dN (Tok.num n2 z2 false)=0) from hz),if_pos (by simpa using hz)];rfl
          |_=>rfl
   |_=>rfl
theorem lj {α:Type}(k:Rat->P α)(hk:∀ q,bJ (k q)):(X8 >>= k)=(value >>= k):=by
 funext l
 rw[d5,d5];cases l with
 |nil=>rfl
 |cons x r =>
  unfold X8 value;rw[d5,d5,B7,bG];by_cases h:x.tok=.broken
  ·rw[if_pos h,h,O7 _ (by decide)];dsimp only;rw[if_pos rfl];unfold C2;rw[d5,B5,if_pos h]
  ·rw[if_neg h];dsimp only;cases hm:y4 (.m 45) x.tok with
   |false =>
    rw[if_pos rfl,if_neg (by decide)];have:=congrFun (Z7 k hk) (x::r);rw[d5,d5]at this;exact this
   |true =>
    rw[if_neg (by decide),if_pos rfl,d5,d5,E9];dsimp only[List.drop];have:=congrFun (Z7 (λq=>k (-q)) (λq=>hk _)) r;rw[d5,d5]at this⊢;generalize C2 r=A at this;generalize number r=B at this;cases A<;>cases B<;>exact this
theorem C8 {α β:Type}{m:P α}{k k':α->P β}(h:∀ a,k a=k' a):(m >>= k)=(m >>= k'):=by
 have:k=k':=funext h;rw[this]
theorem xT (c:UInt8):X9 c=index c:=by
 unfold X9 index;rw[Z7 _ (λq=>by unfold D9;exact λx r h=>by rw[d5,d5,B5,if_pos h])];refine C8 λq=>?_;funext l
 cases l with
 |nil=>rfl
 |cons x r =>
  unfold D9;rw[d5,d5,d5,B5,cU];by_cases h:x.tok=.broken
  ·rw[if_pos h,if_pos h]
  ·rw[if_neg h,if_neg h];have e:(([K.m c].any λk=>y4 k x.tok)=true)=(y4 (.m c) x.tok=true):=by simp
   simp only[e];cases z:y4 (.m c) x.tok with
   |false=>rfl
   |true =>
    simp only[if_true];rw[d5,F8];by_cases hq:q<1
    ·have h2:¬ (1<=q):=Rat.not_le.mpr hq;simp only[hq,h2,decide_true,decide_false,if_true];rfl
    ·have h2:1<=q:=Rat.not_lt.mp hq;simp only[hq,h2,decide_true,decide_false,if_true];rfl
noncomputable def J9 (taken:Bytes->Bool):P Bytes:=λl=>match l with
 |x::r=>if x.tok=.broken then .error (1,x.at_)else match x.tok with
  |.name b=>if taken b=true then .error (3,x.at_)else .ok (b,r)
  |_=>.error (2,x.at_)
 |[]=>.error (2,0)
theorem kz (x:Lex)(r:List Lex):name (x::r)=if x.tok=.broken then .error (1,x.at_)else match x.tok with
  |.name b=>.ok ((x.at_,b),r)
  |_=>.error (2,x.at_):=by
 unfold name;rw[d5,D5];by_cases h:x.tok=.broken
 ·rw[if_pos h,if_pos h]
 ·rw[if_neg h,if_neg h];obtain⟨p,t⟩:=x;cases t<;>rfl
theorem og {α:Type}(taken:Bytes->Bool)(ok:Bytes->Bool)(ho:∀ b,ok b=!taken b)(k:Bytes->P α):(name >>= λn=>need (ok n.2) 3 n.1 >>= λ_=>k n.2)=(J9 taken >>= k):=by
 funext l
 rw[d5,d5];cases l with
 |nil=>rfl
 |cons x r =>
  rw[kz];unfold J9;dsimp only;by_cases h:x.tok=.broken
  ·rw[if_pos h,if_pos h]
  ·rw[if_neg h,if_neg h];obtain⟨p,t⟩:=x;cases t with
   |name b =>
    dsimp only;rw[d5,F8,ho];cases taken b<;>rfl
   |_=>rfl
noncomputable def iz (l:List Glass)(b:Bytes):Bool:=l.any λg=>g.name==b
noncomputable def lu (l:List Elem)(b:Bytes):Bool:=l.any λg=>g.name==b
theorem sW {α:Type}(f:α->Bytes)(l:List α)(b:Bytes):(l.all λg=>f g !=b)=!(l.any λg=>f g==b):=by
 induction l with
 |nil=>rfl
 |cons a l ih=>rw[List.all_cons,List.any_cons,ih,Bool.not_or];rfl
theorem fF {α:Type}(s:String)(k:P α):(word s >>= λ_=>k)=(A4 (.w s) >>= λ_=>k):=by
 funext l
 rw[d5,d5];cases l with
 |nil=>rfl
 |cons x r =>
  rw[S0,D7];by_cases h:x.tok=.broken
  ·rw[if_pos h,if_pos h]
  ·rw[if_neg h,if_neg h];cases y4 (.w s) x.tok<;>rfl
theorem fG {α:Type}(c:UInt8)(k:P α):(mark c >>= λ_=>k)=(A4 (.m c) >>= λ_=>k):=by
 funext l
 rw[d5,d5];cases l with
 |nil=>rfl
 |cons x r =>
  rw[cU,D7];by_cases h:x.tok=.broken
  ·rw[if_pos h,if_pos h]
  ·rw[if_neg h,if_neg h];cases y4 (.m c) x.tok<;>rfl
noncomputable def bf (l:List Glass):P Glass :=
 if l.length=64 then refuse 5 else do
  pass
  let n ← J9 (iz l);let _ ← A4 (.m 58);let a ← X9 44;let b ← X9 44;let c ← X9 59
  pure ⟨n,[a,b,c]⟩
theorem xZ (l:List Glass)(hl:l.length<=64)(x:Lex)(r:List Lex)(hx:y4 (.w "glass") x.tok=true):bf l (x::r)=glass l (x::r):=by
 have hb:¬ x.tok=.broken:=by intro q;rw[q]at hx;cases hx
 unfold bf glass;rw[d5,S0,if_neg hb,if_pos hx];dsimp only;rw[d5,F8];by_cases h:l.length=64
 ·have h2:¬ l.length<GLASSES:=by unfold GLASSES;omega
  rw[if_pos h];simp only[h2,decide_false];rfl
 ·have h2:l.length<GLASSES:=by unfold GLASSES;omega
  rw[if_neg h];simp only[h2,decide_true,if_true];rw[d5,E9];dsimp only[List.drop];have e:=og (iz l) (λb=>l.all λg=>g.name !=b) (λb=>sW (·.name) l b) (λn=>mark 58 >>= λ_=>index 44 >>= λa=>index 44 >>= λb=>index 59 >>= λc=>(pure ⟨n,[a,b,c]⟩:P Glass));refine Eq.trans ?_ (congrFun e r).symm;simp only[xT,fG]
theorem dW (a b:Nat):(0:Rat)<=(a:Rat)/(b:Rat):=by
 have e:(a:Rat)/(b:Rat)=Rat.divInt (a:Int) (b:Int):=by rw[Rat.divInt_eq_div];rfl
 rw[e];refine Rat.num_nonneg.mp ?_;rw[Rat.num_divInt];exact Int.ediv_nonneg (Int.mul_nonneg (by cases b with
  |zero=>decide
  |succ n=>rw[Int.sign_eq_one_of_pos (by omega)];decide) (Int.natCast_nonneg a)) (Int.natCast_nonneg _)
theorem jM {l l':List Lex}{q:Rat}(h:C2 l=.ok (q,l')):0<=q:=by
 cases l with
 |nil=>cases h
 |cons x r =>
  unfold C2 at h;rw[d5,B5]at h;split at h
  ·cases h
  ·rename_i a l1 h0
   split at h0
   ·cases h0
   ·split at h0
    ·cases h0;rw[d5,B7]at h;dsimp only at h;split at h
     ·unfold eJ at h;rw[d5,D7]at h;split at h
      ·cases h
      ·cases h;exact dW _ _
     ·rw[d5,D7]at h;split at h
      ·cases h
      ·rename_i t l2 h3
       rw[d5]at h;split at h
       ·cases h
       ·rename_i b l3 h4
        split at h
        ·cases h;have:=dW (dN t) 1;rw[show((1:Nat):Rat)=1 from rfl]at this;have e:(dN t:Rat)/1=(dN t:Rat):=by grind
         rw[e]at this;exact this
        ·rw[d5,E9]at h;dsimp only at h;rw[d5]at h;split at h
         ·cases h
         ·rw[d5]at h;split at h
          ·cases h
          ·rename_i y l5 h6
           split at h
           ·cases l5<;>cases h
           ·cases h;exact dW _ _
    ·cases h0
theorem br (bad:Bool)(ks:List K)(x:Lex)(r:List Lex):D9 bad ks (x::r)=if x.tok=.broken then .error (1,x.at_)else if(ks.any λk=>y4 k x.tok)=true then(if bad=true then .error (6,x.at_)else .ok ((),x::r))else .error (2,x.at_):=by
 unfold D9;rw[d5,B5];by_cases h:x.tok=.broken
 ·rw[if_pos h,if_pos h]
 ·rw[if_neg h,if_neg h];by_cases h2:(ks.any λk=>y4 k x.tok)=true
  ·rw[if_pos h2,if_pos h2];cases bad<;>rfl
  ·rw[if_neg h2,if_neg h2]
theorem eW {α:Type}(bad:Bool)(ks:List K)(k:Unit->P α):bJ (D9 bad ks >>= k):=λx r h=>by
 rw[d5,br,if_pos h]
theorem cG {α β γ:Type}(m:P α)(f:α->P β)(g:β->P γ):(m >>= f >>= g)=(m >>= λa=>f a >>= g):=by
 funext l
 rw[d5,d5,d5];cases m l with
 |error e=>rfl
 |ok x=>exact(d5 _ _ _).symm
noncomputable def qI:P Rat:=do
  if(← isWordNext "flat")=true then do pass;pure 0
  else if(← isWordNext "curve")=true then do pass;value
  else do
   let _ ← word "radius";let r ← value;let x ← peek
   need (x.tok==.word (ascii "conic")||(x.tok==.word (ascii "clear")||x.tok==.mark 59)) 2 x.at_
   need (r !=0) 6 x.at_
   pure (1/r)
theorem Av {α:Type}(k:Rat->P α)(hk:∀ q,bJ (k q)):(U2 >>= k)=(qI >>= k):=by
 funext l
 cases l with
 |nil=>rfl
 |cons x r =>
  unfold U2 qI;rw[d5,d5,d5,d5,B5,A5];by_cases h:x.tok=.broken
  ·rw[if_pos h,if_pos h]
  ·rw[if_neg h,if_neg h];dsimp only;have ea:(([K.w "flat",K.w "curve",K.w "radius"].any λk=>y4 k x.tok)=true)=(y4 (.w "flat") x.tok=true\/y4 (.w "curve") x.tok=true\/y4 (.w "radius") x.tok=true):=by simp[List.any_cons]
   simp only[ea];cases h1:y4 (.w "flat") x.tok with
   |true =>
    simp only[true_or,if_true];rw[d5,B7];simp only[h1,if_true]
   |false =>
    cases h2:y4 (.w "curve") x.tok with
    |true =>
     simp only[true_or,or_true,if_true];rw[d5,B7];simp only[h1];rw[if_neg (by decide),if_neg (by decide),d5,d5,B7,A5,if_neg h];simp only[h2,if_true];rw[d5,d5,E9];have:=congrFun (lj k hk) r;rw[d5,d5]at this;exact this
    |false =>
     cases h3:y4 (.w "radius") x.tok with
     |false =>
      simp only[Bool.false_eq_true,or_self,if_false];rw[d5,A5,if_neg h];simp only[h2];rw[if_neg (by decide),d5,S0,if_neg h,h3,if_neg (by decide)]
     |true =>
      simp only[or_true,if_true];rw[d5,B7];simp only[h1];rw[if_neg (by decide),if_neg (by decide),d5,d5,B7,A5,if_neg h];simp only[h2];rw[if_neg (by decide),if_neg (by decide),d5,d5,E9,S0,if_neg h,h3,if_pos rfl];dsimp only[List.drop];have e1:=congrFun (lj (λq=>D9 (decide (q=0)) [.w "conic",.w "clear",.m 59] >>= λ_=>(pure (1/q):P Rat)) (λq=>eW _ _ _)) r;rw[e1];have e2:∀ q:Rat,(D9 (decide (q=0)) [.w "conic",.w "clear",.m 59] >>= λ_=>(pure (1/q):P Rat))=(peek >>= λx=>need (x.tok==.word (ascii "conic")||(x.tok==.word (ascii "clear")||x.tok==.mark 59)) 2 x.at_ >>= λ_=>need (q !=0) 6 x.at_ >>= λ_=>(pure (1/q):P Rat)):=λq=>by
       funext l
       cases l with
       |nil=>rfl
       |cons y r =>
        rw[d5,d5,br,D5];by_cases hy:y.tok=.broken
        ·rw[if_pos hy,if_pos hy]
        ·rw[if_neg hy,if_neg hy];dsimp only;rw[d5,F8];have eb:([K.w "conic",K.w "clear",K.m 59].any λk=>y4 k y.tok)=(y.tok==.word (ascii "conic")||(y.tok==.word (ascii "clear")||y.tok==.mark 59)):=by
          simp only[List.any_cons,List.any_nil,Bool.or_false];rfl
         rw[eb];cases(y.tok==.word (ascii "conic")||(y.tok==.word (ascii "clear")||y.tok==.mark 59))with
         |false=>rfl
         |true =>
          rw[if_pos rfl,if_pos rfl];dsimp only;rw[d5,F8];by_cases hq:q=0
          ·subst hq;rfl
          ·have hn:(q !=0)=true:=by simpa using hq
           rw[hn];simp only[hq,decide_false];rfl
      simp only[e2]
theorem Aw {α:Type}(c:Rat)(k:Rat×Rat->P α)(hk:∀ q,bJ (k q)):(Y0 >>= λz=>k (c,z))=(isWordNext "conic" >>= λb=>(if b=true then(do
  pass
  let k ← value
  pure (c,k))else pure (c,0):P (Rat×Rat)) >>= k):=by
 funext l
 cases l with
 |nil=>rfl
 |cons x r =>
  unfold Y0;rw[d5,d5,d5,B7,A5];by_cases h:x.tok=.broken
  ·rw[if_pos h,h,O7 _ (by decide)];exact hk _ x r h
  ·rw[if_neg h];dsimp only;cases h1:y4 (.w "conic") x.tok with
   |false =>
    rw[if_pos rfl,if_neg (by decide),d5];rfl
   |true =>
    rw[if_neg (by decide),if_pos rfl,d5,d5,d5,E9];dsimp only[List.drop];have e:=congrFun (lj (λz=>k (c,z)) (λz=>hk _)) r;rw[d5,d5]at e;rw[d5];generalize X8 r=A at e;generalize value r=B at e;cases A<;>cases B<;>exact e
theorem yR {α:Type}(k:Rat×Rat->P α)(hk:∀ q,bJ (k q)):(U2 >>= λc=>Y0 >>= λz=>k (c,z))=(shape >>= k):=by
 have e:shape=(qI >>= λc=>isWordNext "conic" >>= λb=>(if b=true then(do
  pass
  let k ← value
  pure (c,k))else pure (c,0):P (Rat×Rat))):=rfl
 have g:∀ c,bJ (Y0 >>= λz=>k (c,z)):=λc x r h=>by
  unfold Y0;rw[d5,d5,B7,h,O7 _ (by decide)];exact hk _ x r h
 rw[e,cG,Av _ g];refine C8 λc=>?_;rw[Aw c k hk,cG]
noncomputable def L7:P (Option Rat):=do
 if(← sees (.w "clear"))=true then do
  pass
  let q ← C2
  D9 (decide (q=0)) [.m 59]
  pure (some q)
 else pure none
theorem sR {α:Type}(k:Option Rat->P α):(L7 >>= λc=>A4 (.m 59) >>= λ_=>k c)=(clearEnd >>= k):=by
 funext l
 cases l with
 |nil=>rfl
 |cons x r =>
  unfold L7 clearEnd;rw[d5,d5,d5,d5,B7,A5];by_cases h:x.tok=.broken
  ·rw[if_pos h,h,O7 _ (by decide)];dsimp only;rw[if_neg (by decide),cj];dsimp only;rw[d5,D7,if_pos h]
  ·rw[if_neg h];dsimp only;cases h1:y4 (.w "clear") x.tok with
   |false =>
    rw[if_neg (by decide),if_neg (by decide),cj];dsimp only;rw[<-fG,d5,d5];cases mark 59 (x::r)with
    |error e=>rfl
    |ok z=>rfl
   |true =>
    rw[if_pos rfl,if_pos rfl,d5,d5,E9];dsimp only[List.drop];have e1:=congrFun (Z7 (λq=>D9 (decide (q=0)) [.m 59] >>= λ_=>(pure (some q):P (Option Rat))) (λq=>eW _ _ _)) r;have e3:=congrFun (Z7 (λq=>mark 59 >>= λe=>need (decide (0<q)) 6 e >>= λ_=>(pure (some q):P (Option Rat))) (λq=>qA _ _)) r;rw[<-e3,d5,d5];cases hA:C2 r with
    |error e=>rfl
    |ok z =>
     obtain⟨q,l'⟩:=z;have hq:=jM hA;dsimp only;cases l' with
     |nil=>rfl
     |cons y l' =>
      rw[d5,d5,br,cU];by_cases hy:y.tok=.broken
      ·rw[if_pos hy,if_pos hy]
      ·rw[if_neg hy,if_neg hy];have eb:([K.m 59].any λk=>y4 k y.tok)=y4 (.m 59) y.tok:=by simp
       rw[eb];cases hm:y4 (.m 59) y.tok with
       |false=>rfl
       |true =>
        rw[if_pos rfl,if_pos rfl];dsimp only;rw[d5,F8];by_cases hz:q=0
        ·subst hz;rfl
        ·have hp:0<q:=by grind
         simp only[hz,hp,decide_false,decide_true,if_true];rw[if_neg (by decide)];dsimp only[cj];rw[d5,D7,if_neg hy,hm,if_pos rfl]
noncomputable def K4 (n:Bytes)(g:Rat)(kind:Kind)(flatOne:Bool):P Elem :=
 if flatOne=true then do
  let c ← L7;let _ ← A4 (.m 59)
  pure ⟨n,g,kind,0,0,c⟩
 else do
  let s ← U2;let z ← Y0;let c ← L7;let _ ← A4 (.m 59)
  pure ⟨n,g,kind,s,z,c⟩
noncomputable def gq (gl:List Glass)(others:List Elem)(t:Tok):P Elem :=
 if others.length=64 then refuse 5 else do
  pass
  let n ← J9 (lu others);let _ ← A4 (.w "after");let g ← C2
  if y4 (.w "surface") t=true then do
   let _ ← A4 (.w "into");let m ← glassNamed gl
   K4 n g (.surface m) false
  else if y4 (.w "stop") t=false then K4 n g .mirror false
  else K4 n g .halt_ true
theorem gB {α:Type}(k:Option Rat->P α):bJ (L7 >>= λc=>A4 (.m 59) >>= λ_=>k c):=λx r h=>by
 unfold L7;rw[d5,d5,B7,h,O7 _ (by decide)];dsimp only;rw[if_neg (by decide),cj];dsimp only;rw[d5,D7,if_pos h]
theorem vL (n:Bytes)(g:Rat)(kind:Kind):K4 n g kind false=(shape >>= λs=>clearEnd >>= λc=>(pure ⟨n,g,kind,s.1,s.2,c⟩:P Elem)):=by
 have e:=yR (λs=>L7 >>= λc=>A4 (.m 59) >>= λ_=>(pure ⟨n,g,kind,s.1,s.2,c⟩:P Elem)) (λq=>gB _);show(U2 >>= λc=>Y0 >>= λz=>L7 >>= λo=>A4 (.m 59) >>= λ_=>(pure ⟨n,g,kind,c,z,o⟩:P Elem))=_;rw[e];refine C8 λs=>?_;exact sR _
theorem BA (n:Bytes)(g:Rat)(kind:Kind):K4 n g kind true=(clearEnd >>= λc=>(pure ⟨n,g,kind,0,0,c⟩:P Elem)):=sR _
theorem mr (n:Bytes)(g:Rat)(kind:Kind):bJ (K4 n g kind false):=λx r h=>by
 show(U2 >>= _) (x::r)=_;unfold U2;rw[d5,d5,B5,if_pos h]
theorem mq (n:Bytes)(g:Rat)(kind:Kind):bJ (K4 n g kind true):=gB _
theorem iu {s:String}{t:Tok}(h:y4 (.w s) t=true):t=.word (ascii s):=eq_of_beq h
theorem Ao (gl:List Glass)(others:List Elem)(hl:others.length<=64)(x:Lex)(r:List Lex)(hx:y4 (.w "surface") x.tok=true\/y4 (.w "mirror") x.tok=true\/y4 (.w "stop") x.tok=true) :
  gq gl others x.tok (x::r)=elem gl others (x::r):=by
 have hb:¬ x.tok=.broken:=by intro q;rw[q]at hx;rcases hx with h|h|h<;>cases h
 unfold gq elem;rw[d5,D5,if_neg hb];dsimp only;have hn:(x.tok==.word (ascii "surface")||(x.tok==.word (ascii "mirror")||x.tok==.word (ascii "stop")))=true:=by
  rcases hx with h|h|h
  ·rw[show(x.tok==.word (ascii "surface"))=true from h];rfl
  ·rw[show(x.tok==.word (ascii "mirror"))=true from h,Bool.true_or,Bool.or_true]
  ·rw[show(x.tok==.word (ascii "stop"))=true from h,Bool.or_true,Bool.or_true]
 rw[d5,F8,hn,if_pos rfl];dsimp only;rw[d5,F8];by_cases h:others.length=64
 ·have h2:¬ others.length<ELEMS:=by unfold ELEMS;omega
  rw[if_pos h];simp only[h2,decide_false];rfl
 ·have h2:others.length<ELEMS:=by unfold ELEMS;omega
  rw[if_neg h];simp only[h2,decide_true,if_true];rw[d5,d5,E9];dsimp only[List.drop];generalize ht:x.tok=t at hx;have e:=og (lu others) (λb=>others.all λg=>g.name !=b) (λb=>sW (·.name) others b) (λn=>word "after" >>= λ_=>number >>= λg =>
   if t=.word (ascii "surface")then(do
    let _ ← word "into";let m ← glassNamed gl;let s ← shape;let c ← clearEnd
    pure ⟨n,g,.surface m,s.1,s.2,c⟩:P Elem)
   else if t=.word (ascii "mirror")then(do
    let s ← shape;let c ← clearEnd
    pure ⟨n,g,.mirror,s.1,s.2,c⟩)
   else(do
    let c ← clearEnd
    pure ⟨n,g,.halt_,0,0,c⟩))
  refine Eq.trans ?_ (congrFun e r).symm;refine congrFun (C8 λn=>?_) r;rw[fF];refine C8 λ_=>?_;have ek:∀ g:Rat,(if y4 (.w "surface") t=true then(do
    let _ ← A4 (.w "into");let m ← glassNamed gl
    K4 n g (.surface m) false:P Elem)
   else if y4 (.w "stop") t=false then K4 n g .mirror false
   else K4 n g .halt_ true)=(if t=.word (ascii "surface")then(do
    let _ ← word "into";let m ← glassNamed gl;let s ← shape;let c ← clearEnd
    pure ⟨n,g,.surface m,s.1,s.2,c⟩:P Elem)
   else if t=.word (ascii "mirror")then(do
    let s ← shape;let c ← clearEnd
    pure ⟨n,g,.mirror,s.1,s.2,c⟩)
   else(do
    let c ← clearEnd
    pure ⟨n,g,.halt_,0,0,c⟩)):=λg=>by
   rcases hx with h|h|h
   ·rw[if_pos h,if_pos (iu h),fF];simp only[vL]
   ·have q:=iu h;subst q;rw[if_neg (by decide +kernel),if_pos (by decide +kernel),if_neg (by decide +kernel),if_pos rfl,vL]
   ·have q:=iu h;subst q;rw[if_neg (by decide +kernel),if_neg (by decide +kernel),if_neg (by decide +kernel),if_neg (by decide +kernel),BA]
  rw[Z7]
  ·exact C8 ek
  ·intro g;rcases hx with h|h|h
   ·rw[if_pos h];exact oY _ _
   ·have q:=iu h;subst q;rw[if_neg (by decide +kernel),if_pos (by decide +kernel)];exact mr _ _ _
   ·have q:=iu h;subst q;rw[if_neg (by decide +kernel),if_neg (by decide +kernel)];exact mq _ _ _
theorem bj (f:Nat)(l:List Glass)(x:Lex)(r:List Lex)(hb:¬ x.tok=.broken):glasses (f+1) l (x::r)=if y4 (.w "glass") x.tok=true then(glass l >>= λg=>glasses f (l++[g])) (x::r)else .ok (l,x::r):=by
 show(isWordNext "glass" >>= λb=>if b=true then(glass l >>= λg=>glasses f (l++[g]))else pure l) (x::r)=_;rw[d5,A5,if_neg hb];dsimp only;cases y4 (.w "glass") x.tok<;>rfl
theorem dU (gl:List Glass)(f:Nat)(l:List Elem)(x:Lex)(r:List Lex)(hb:¬ x.tok=.broken):elems gl (f+1) l (x::r)=if y4 .fin x.tok=true then .ok (l,x::r)else(elem gl l >>= λe=>elems gl f (l++[e])) (x::r):=by
 show(peek >>= λx=>if x.tok=.end_ then pure l else(elem gl l >>= λe=>elems gl f (l++[e]))) (x::r)=_;rw[d5,D5,if_neg hb];dsimp only;show _=if(x.tok==.end_)=true then _ else _
 by_cases h:x.tok=.end_
 ·rw[if_pos h,if_pos (by simpa using h)];rfl
 ·rw[if_neg h,if_neg (by simpa using h)]
theorem uJ (gl:List Glass)(f:Nat)(l:List Elem)(x:Lex)(r:List Lex)(hb:¬ x.tok=.broken)(h:([K.w "surface",K.w "mirror",K.w "stop",K.fin].any λk=>y4 k x.tok)=false):elems gl (f+1) l (x::r)=.error (2,x.at_):=by
 simp only[List.any_cons,List.any_nil,Bool.or_eq_false_iff]at h;rw[dU gl f l x r hb,h.2.2.2.1,if_neg (by decide),d5];unfold elem;rw[d5,D5,if_neg hb];dsimp only;have e:(x.tok==.word (ascii "surface")||(x.tok==.word (ascii "mirror")||x.tok==.word (ascii "stop")))=false:=by
  have h1:(x.tok==.word (ascii "surface"))=false:=h.1;have h2:(x.tok==.word (ascii "mirror"))=false:=h.2.1;have h3:(x.tok==.word (ascii "stop"))=false:=h.2.2.1;rw[h1,h2,h3];rfl
 rw[d5,F8,e];rfl
theorem Ep:Num.isDigit=Text.isDigit:=by
 funext c
 unfold Num.isDigit Text.isDigit;simp only[UInt8.le_iff_toNat_le];rfl
theorem DM:Num.number=Text.natural:=rfl
theorem fh {p:UInt8->Bool}:∀ (l:Bytes),l.drop (l.takeWhile p).length=[]↔l.all p=true
 |[]=>by simp
 |a::l=>by
  cases h:p a with
  |true=>simp[List.takeWhile_cons,h,fh l]
  |false=>simp[List.takeWhile_cons,h]
theorem pM {p:UInt8->Bool}:∀ {l:Bytes},l.all p=true->l.takeWhile p=l
 |[],_=>rfl
 |a::l,h=>by
  simp only[List.all_cons,Bool.and_eq_true]at h;rw[List.takeWhile_cons,h.1,if_pos rfl,pM h.2]
noncomputable def A3 (s:Bytes):Option Rat :=
 let a:=s.takeWhile Text.isDigit
 if a=[]then none else match s.drop a.length with
  |[]=>some ((Text.natural a:Nat):Rat)
  |c::back =>
   if back=[]\/back.all Text.isDigit=false then none
   else if c=46 then some (((Text.natural (a++back):Nat):Rat)/((10^back.length:Nat):Rat))
   else if c=47/\0<Text.natural back then some (((Text.natural a:Nat):Rat)/((Text.natural back:Nat):Rat))
   else none
noncomputable def dJ:Except Nat (Rat×Bytes)->Option Rat
 |.error _=>none
 |.ok x=>if x.2=[]then some x.1 else none
theorem gj (p:Nat)(s:Bytes)(hs:s.length<=512):dJ (Num.partAt p s)=A3 s:=by
 unfold Num.partAt A3;rw[Ep,DM];dsimp only;have hl:(s.takeWhile Text.isDigit).length<=s.length:=(List.takeWhile_prefix _).length_le;by_cases h0:s.takeWhile Text.isDigit=[]
 ·rw[if_pos h0,if_pos h0];rfl
 ·rw[if_neg h0,if_neg h0,if_neg (by unfold Num.DIGITS;omega)];have hd:(s.drop (s.takeWhile Text.isDigit).length).length<=s.length:=by simp
  generalize s.drop (s.takeWhile Text.isDigit).length=r at hd;generalize s.takeWhile Text.isDigit=a;cases r with
  |nil=>rfl
  |cons c back =>
   have hb:back.length<=512:=by simp at hd;omega
   have ht:(back.takeWhile Text.isDigit).length<=back.length:=(List.takeWhile_prefix _).length_le;have hD:¬ Num.DIGITS<(back.takeWhile Text.isDigit).length:=by unfold Num.DIGITS;omega
   dsimp only;by_cases h1:c=46
   ·subst h1;show dJ (if back.takeWhile Text.isDigit=[]then _ else if Num.DIGITS<(back.takeWhile Text.isDigit).length then _ else _)=_;rw[if_neg hD];by_cases h2:back.takeWhile Text.isDigit=[]
    ·rw[if_pos h2];have:back=[]\/back.all Text.isDigit=false:=by
      cases back with
      |nil=>exact .inl rfl
      |cons x y =>
       refine .inr ?_;cases hx:Text.isDigit x with
       |true=>simp[List.takeWhile_cons,hx]at h2
       |false=>simp[hx]
     rw[if_pos this];rfl
    ·rw[if_neg h2];have hne:back≠[]:=by intro q;rw[q]at h2;exact h2 rfl
     cases ha:back.all Text.isDigit with
     |false =>
      have:¬ back.drop (back.takeWhile Text.isDigit).length=[]:=by rw[fh,ha];decide
      rw[if_pos (Or.inr rfl)];show(if _=[]then _ else _)=_;rw[if_neg this]
     |true =>
      rw[if_neg (by simp[hne]),if_pos rfl];show(if _=[]then _ else _)=_;rw[if_pos ((fh back).mpr ha)];dsimp only;rw[pM ha]
   ·by_cases h3:c=47
    ·subst h3;show dJ (if back.takeWhile Text.isDigit=[]then _ else if Num.DIGITS<(back.takeWhile Text.isDigit).length then _ else _)=_;rw[if_neg hD];by_cases h2:back.takeWhile Text.isDigit=[]
     ·rw[if_pos h2];have:back=[]\/back.all Text.isDigit=false:=by
       cases back with
       |nil=>exact .inl rfl
       |cons x y =>
        refine .inr ?_;cases hx:Text.isDigit x with
        |true=>simp[List.takeWhile_cons,hx]at h2
        |false=>simp[hx]
      rw[if_pos this];rfl
     ·rw[if_neg h2];have hne:back≠[]:=by intro q;rw[q]at h2;exact h2 rfl
      cases ha:back.all Text.isDigit with
      |false =>
       have:¬ back.drop (back.takeWhile Text.isDigit).length=[]:=by rw[fh,ha];decide
       rw[if_pos (Or.inr rfl)];by_cases hz:Text.natural (back.takeWhile Text.isDigit)=0
       ·rw[if_pos hz];rfl
       ·rw[if_neg hz];show(if _=[]then _ else _)=_;rw[if_neg this]
      |true =>
       have hor:¬ (back=[]\/true=false):=by simp[hne]
       rw[if_neg hor,if_neg h1,pM ha];by_cases hz:Text.natural back=0
       ·rw[if_pos hz,if_neg (by omega)];rfl
       ·rw[if_neg hz,if_pos ⟨rfl,by omega⟩];show(if _=[]then _ else _)=_;rw[if_pos (by simp)]
    ·have e:(match (motive:=Bytes->Except Nat (Rat×Bytes)) c::back with
       |46::t=>if t.takeWhile Text.isDigit=[]then .error (p+a.length+1)else if Num.DIGITS<(t.takeWhile Text.isDigit).length then .error (p+a.length+1+Num.DIGITS)else .ok (((Text.natural (a++t.takeWhile Text.isDigit):Nat):Rat)/((10^(t.takeWhile Text.isDigit).length:Nat):Rat),t.drop (t.takeWhile Text.isDigit).length)
       |47::t=>if t.takeWhile Text.isDigit=[]then .error (p+a.length+1)else if Num.DIGITS<(t.takeWhile Text.isDigit).length then .error (p+a.length+1+Num.DIGITS)else if Text.natural (t.takeWhile Text.isDigit)=0 then .error (p+a.length+1)else .ok (((Text.natural a:Nat):Rat)/((Text.natural (t.takeWhile Text.isDigit):Nat):Rat),t.drop (t.takeWhile Text.isDigit).length)
       |_=>.ok (((Text.natural a:Nat):Rat),c::back))=.ok (((Text.natural a:Nat):Rat),c::back):=by
      split
      ·rename_i q;simp only[List.cons.injEq]at q;exact absurd q.1 h1
      ·rename_i q;simp only[List.cons.injEq]at q;exact absurd q.1 h3
      ·rfl
     refine Eq.trans (congrArg dJ e) ?_;show(if c::back=[]then some ((Text.natural a:Nat):Rat)else none)=_;rw[if_neg (by simp)];by_cases hh:back=[]\/back.all Text.isDigit=false
     ·rw[if_pos hh]
     ·rw[if_neg hh,if_neg h1,if_neg (by simp[h3])]
noncomputable def aE (s:Bytes):Option Rat:=match s with
 |45::t=>(A3 t).map λq=>-q
 |_=>A3 s
noncomputable def z6 (s:Bytes):Option Rat:=if 512<s.length then none else match aE s with
 |some q=>if Num.fits q=true then some q else none
 |none=>none
theorem uG (s:Bytes):Num.numOf (some s)=z6 s:=by
 unfold z6;show(if Num.LONG<s.length then none else match Num.readNum s with
  |.ok q=>if Num.fits q=true then some q else none
  |.error _=>none)=_
 by_cases hl:512<s.length
 ·rw[if_pos (show Num.LONG<s.length from hl),if_pos hl]
 ·rw[if_neg (show ¬ Num.LONG<s.length from hl),if_neg hl];have key:(match Num.readNum s with
   |.ok q=>some q
   |.error _=>none)=aE s:=by
   have hr:(match Num.readNum s with
    |.ok q=>some q
    |.error _=>none)=dJ (Num.signedAt 0 s):=by
    unfold Num.readNum;cases Num.signedAt 0 s with
    |error e=>rfl
    |ok x =>
     dsimp only[dJ];by_cases hx:x.2=[]
     ·rw[if_pos hx,if_pos hx]
     ·rw[if_neg hx,if_neg hx]
   rw[hr];unfold Num.signedAt aE;split
   ·rename_i t
    have ht:t.length<=512:=by simp at hl;omega
    show _=Option.map _ (A3 t);rw[<-gj 1 t ht];show dJ ((Num.partAt (0+1) t).map _)=_;cases Num.partAt (0+1) t with
    |error e=>rfl
    |ok x =>
     show(if x.2=[]then _ else _)=Option.map _ (if x.2=[]then _ else _);by_cases hx:x.2=[]
     ·rw[if_pos hx,if_pos hx];rfl
     ·rw[if_neg hx,if_neg hx];rfl
   ·rename_i hne
    refine Eq.trans (gj 0 s (by omega)) ?_;split
    ·rename_i t;exact absurd rfl (hne t)
    ·rfl
  rw[<-key];cases Num.readNum s with
  |error e=>rfl
  |ok q=>rfl
theorem yd (a b:Int)(hb:b≠0):a.fdiv (if b<0 then -((Nat.gcd a.natAbs b.natAbs:Nat):Int)else((Nat.gcd a.natAbs b.natAbs:Nat):Int))=((a:Rat)/(b:Rat)).num /\
  b.fdiv (if b<0 then -((Nat.gcd a.natAbs b.natAbs:Nat):Int)else((Nat.gcd a.natAbs b.natAbs:Nat):Int))=(((a:Rat)/(b:Rat)).den:Int):=by
 have hg:(0:Int)<((Nat.gcd a.natAbs b.natAbs:Nat):Int):=by
  have:0<Nat.gcd a.natAbs b.natAbs:=Nat.gcd_pos_of_pos_right _ (by omega);omega
 have da:((Nat.gcd a.natAbs b.natAbs:Nat):Int)∣a:=Int.ofNat_dvd_left.mpr (Nat.gcd_dvd_left _ _);have db:((Nat.gcd a.natAbs b.natAbs:Nat):Int)∣b:=Int.ofNat_dvd_left.mpr (Nat.gcd_dvd_right _ _);rw[<-Rat.divInt_eq_div,Rat.num_divInt,Rat.den_divInt,if_neg hb];have eg:((b.gcd a:Nat):Int)=((Nat.gcd a.natAbs b.natAbs:Nat):Int):=by
  show((Nat.gcd b.natAbs a.natAbs:Nat):Int)=_;rw[Nat.gcd_comm]
 have eg':b.gcd a=Nat.gcd a.natAbs b.natAbs:=by exact_mod_cast eg
 rw[eg'];generalize Nat.gcd a.natAbs b.natAbs=g at *;obtain⟨u,rfl⟩:=da;obtain⟨v,rfl⟩:=db;have g0:(g:Int)≠0:=by omega
 by_cases h:(g:Int)*v<0
 ·have hv:v<0:=by
   rcases Int.lt_or_le v 0 with q|q
   ·exact q
   ·have:=Int.mul_nonneg (Int.le_of_lt hg) q;omega
  rw[if_pos h,Int.sign_eq_neg_one_of_neg h];constructor
  ·rw[show(g:Int)*u=(-(g:Int))*(-u) by rw[Int.neg_mul_neg],Int.mul_fdiv_cancel_left _ (by omega)];rw[show(-1:Int)*(-(g:Int)*-u)=(g:Int)*(-u) by rw[Int.neg_mul_neg,Int.neg_one_mul,Int.mul_neg],Int.mul_ediv_cancel_left _ g0]
  ·rw[show(g:Int)*v=(-(g:Int))*(-v) by rw[Int.neg_mul_neg],Int.mul_fdiv_cancel_left _ (by omega)];have:((-(g:Int)*-v).natAbs:Int)=(g:Int)*(-v):=by
    rw[Int.neg_mul_neg];have:(g:Int)*v=-((g:Int)*(-v)):=by rw[Int.mul_neg,Int.neg_neg]
    have h2:0<=(g:Int)*(-v):=Int.mul_nonneg (Int.le_of_lt hg) (by omega);omega
   have e2:(((-(g:Int)*-v).natAbs/g:Nat):Int)=-v:=by
    rw[Int.natCast_ediv,this,Int.mul_ediv_cancel_left _ g0]
   omega
 ·have hv:0<v:=by
   rcases Int.lt_or_le 0 v with q|q
   ·exact q
   ·exfalso;rcases Int.lt_or_le v 0 with q2|q2
    ·have:=Int.mul_neg_of_pos_of_neg hg q2;omega
    ·have:v=0:=by omega
     subst this;simp at hb
  have hp:0<(g:Int)*v:=Int.mul_pos hg hv;rw[if_neg h,Int.sign_eq_one_of_pos hp,Int.one_mul,Int.mul_fdiv_cancel_left _ g0,Int.mul_ediv_cancel_left _ g0,Int.mul_fdiv_cancel_left _ g0];refine⟨rfl,?_⟩;have:(((g:Int)*v).natAbs:Int)=(g:Int)*v:=by omega
  rw[Int.natCast_ediv,this,Int.mul_ediv_cancel_left _ g0]
noncomputable def Sz (n:Nat)(q:Rat):Prop:=q.num.natAbs<2^n/\q.den<2^n
theorem Sz.mono {n m:Nat}{q:Rat}(h:Sz n q)(le:n<=m):Sz m q :=
 ⟨Nat.lt_of_lt_of_le h.1 (Nat.pow_le_pow_right (by decide) le),Nat.lt_of_lt_of_le h.2 (Nat.pow_le_pow_right (by decide) le)⟩
theorem zP (a b:Int):((a:Rat)/(b:Rat)).num.natAbs<=a.natAbs:=by
 rw[<-Rat.divInt_eq_div,Rat.num_divInt];rw[Int.natAbs_ediv_of_dvd ?_]
 ·rw[Int.natAbs_mul];refine Nat.le_trans (Nat.div_le_self _ _) ?_;have:b.sign.natAbs<=1:=by rw[Int.natAbs_sign];split<;>omega
  exact Nat.le_trans (Nat.mul_le_mul_right _ this) (by omega)
 ·exact Int.dvd_mul_of_dvd_right (Int.gcd_dvd_right ..)
theorem Er (a b:Int)(hb:b≠0):((a:Rat)/(b:Rat)).den<=b.natAbs:=by
 rw[<-Rat.divInt_eq_div,Rat.den_divInt,if_neg hb];exact Nat.div_le_self _ _
theorem Sz.div {n:Nat}{a b:Int}(ha:a.natAbs<2^n)(hb:b.natAbs<2^n)(h0:b≠0):Sz n ((a:Rat)/(b:Rat)) :=
 ⟨Nat.lt_of_le_of_lt (zP a b) ha,Nat.lt_of_le_of_lt (Er a b h0) hb⟩
theorem R6 {a b n m:Nat}(ha:a<2^n)(hb:b<2^m):a*b<2^(n+m):=by
 rw[Nat.pow_add];exact Nat.mul_lt_mul'' ha hb
theorem D4 (q:Rat):(q.den:Int)≠0:=by have:=q.den_pos;omega
theorem cg (q:Rat):q=(q.num:Rat)/((q.den:Int):Rat):=by
 rw[<-Rat.divInt_eq_div];exact(Rat.num_divInt_den q).symm
theorem xt (p q:Rat):p*q=((p.num*q.num:Int):Rat)/((p.den*q.den:Int):Rat):=by
 conv=>lhs;rw[cg p,cg q]
 have h1:((p.den:Int):Rat)≠0:=by exact_mod_cast D4 p
 have h2:((q.den:Int):Rat)≠0:=by exact_mod_cast D4 q
 rw[Rat.intCast_mul,Rat.intCast_mul]
 grind
theorem yu (p q:Rat):p+q=((p.num*q.den+q.num*p.den:Int):Rat)/((p.den*q.den:Int):Rat):=by
 conv=>lhs;rw[cg p,cg q]
 have h1:((p.den:Int):Rat)≠0:=by exact_mod_cast D4 p
 have h2:((q.den:Int):Rat)≠0:=by exact_mod_cast D4 q
 rw[Rat.intCast_add,Rat.intCast_mul,Rat.intCast_mul,Rat.intCast_mul]
 grind
theorem qG (p q:Rat)(hq:q≠0):p/q=((p.num*q.den:Int):Rat)/((p.den*q.num:Int):Rat):=by
 have h0:q.num≠0:=λz=>hq (Rat.num_eq_zero.mp z);have h3:((q.num:Int):Rat)≠0:=by exact_mod_cast h0
 have h1:((p.den:Int):Rat)≠0:=by exact_mod_cast D4 p
 have h2:((q.den:Int):Rat)≠0:=by exact_mod_cast D4 q
 conv=>lhs;rw[cg p,cg q]
 rw[Rat.intCast_mul,Rat.intCast_mul]
 grind
theorem Sz.mul {n m:Nat}{p q:Rat}(hp:Sz n p)(hq:Sz m q):Sz (n+m) (p*q):=by
 rw[xt];refine Sz.div ?_ ?_ ?_
 ·rw[Int.natAbs_mul];exact R6 hp.1 hq.1
 ·rw[Int.natAbs_mul];exact R6 hp.2 hq.2
 ·exact Int.mul_ne_zero (D4 p) (D4 q)
theorem Sz.add {n m:Nat}{p q:Rat}(hp:Sz n p)(hq:Sz m q):Sz (n+m+1) (p+q):=by
 rw[yu];refine Sz.div ?_ ?_ ?_
 ·have h1:(p.num*(q.den:Int)).natAbs<2^(n+m):=by rw[Int.natAbs_mul];exact R6 hp.1 hq.2
  have h2:(q.num*(p.den:Int)).natAbs<2^(n+m):=by rw[Int.natAbs_mul,Nat.add_comm];exact R6 hq.1 hp.2
  rw[Nat.pow_succ];have:=Int.natAbs_add_le (p.num*(q.den:Int)) (q.num*(p.den:Int));omega
 ·rw[Int.natAbs_mul,Nat.pow_succ];have:(p.den:Int).natAbs*(q.den:Int).natAbs<2^(n+m):=R6 hp.2 hq.2;omega
 ·exact Int.mul_ne_zero (D4 p) (D4 q)
theorem Sz.neg {n:Nat}{q:Rat}(h:Sz n q):Sz n (-q):=by
 unfold Sz at *;rw[Rat.neg_num,Rat.neg_den,Int.natAbs_neg];exact h
theorem Sz.sub {n m:Nat}{p q:Rat}(hp:Sz n p)(hq:Sz m q):Sz (n+m+1) (p-q):=by
 rw[Rat.sub_eq_add_neg];exact hp.add hq.neg
theorem Sz.quo {n m:Nat}{p q:Rat}(hp:Sz n p)(hq:Sz m q)(h0:q≠0):Sz (n+m) (p/q):=by
 rw[qG p q h0];refine Sz.div ?_ ?_ ?_
 ·rw[Int.natAbs_mul];exact R6 hp.1 hq.2
 ·rw[Int.natAbs_mul];exact R6 hp.2 hq.1
 ·exact Int.mul_ne_zero (D4 p) λz=>h0 (Rat.num_eq_zero.mp z)
structure C0 where
 stop:Bool
 walk:Rat
 before:Rat
 behind:Rat
 square:Rat
 bend:Rat
 conic:Rat
 colour:Rat
noncomputable def B1 (s:System_)(line i:Nat):C0:=match (s.elem i).kind with
 |.halt_=>⟨true,s.gap i/s.index line i,0,0,0,0,0,0⟩
 |_ =>
  let n:=s.index line i;let m:=s.index line (i+1);let g:=(s.elem i).curve
  ⟨false,s.gap i/n,n*g,m*g,1/(m*m)-1/(n*n),g*(1/m-1/n),(s.elem i).conic*(g*(g*g))*(m-n),spreads s line (i+1)-spreads s line i⟩
noncomputable def Y4 (t:C0)(r:Near):Rat:=r.y+t.walk*r.v
noncomputable def R7 (t:C0)(r:Near):Rat:=r.v+t.before*Y4 t r
noncomputable def Q9 (t:C0)(r:Near):Near:=⟨Y4 t r,R7 t r-t.behind*Y4 t r⟩
theorem lz (s:System_)(line i:Nat)(r:Near)(hi:s.index line i≠0):(stepOf s line i).on r=Q9 (B1 s line i) r:=by
 unfold stepOf bendOf B1 Q9 R7 Y4;cases(s.elem i).kind with
 |halt_ =>
  simp only[Mat.on,Mat.times,one,transfer];congr 1<;>grind
 |mirror =>
  simp only[Mat.on,Mat.times,bend,transfer];congr 1<;>grind
 |surface g =>
  simp only[Mat.on,Mat.times,bend,transfer];congr 1<;>grind
theorem wY (m n:Mat)(r:Near):(m.times n).on r=m.on (n.on r):=by
 simp only[Mat.on,Mat.times];congr 1<;>grind
theorem Co (r:Near):one.on r=r:=by
 obtain⟨y,v⟩:=r;simp only[Mat.on,one];congr 1<;>grind
theorem qr (s:System_)(line i:Nat)(r:Near):(matTo s line (i+1)).on r=(stepOf s line i).on ((matTo s line i).on r):=wY _ _ _
theorem xI (t:C0)(p q:Near):lagrange (Q9 t p) (Q9 t q)=lagrange p q:=by
 simp only[lagrange,Q9,R7,Y4]
 grind
noncomputable def nV (t : C0) (y a z b : Rat) : Sums :=
  ⟨a * a * (y * (t.bend * y-t.square * a)) + t.conic * y * y * (y * y),
   a * b * (y * (t.bend * y-t.square * a)) + t.conic * y * y * (y * z),
   b * b * (y * (t.bend * y-t.square * a)) + t.conic * y * y * (z * z),
   -t.bend * (a * z-b * y) * (a * z-b * y),
   b * (t.bend * z * (2 * b * y-a * z)-t.square * y * (b * b)) + t.conic * y * z * (z * z),
   a * (t.colour * y),
   b * (t.colour * y)⟩
noncomputable def bD (t:C0)(p q:Near):Option Sums :=
 if t.stop=true then some Sums.none else if R7 t p=0 then none else some (nV t (Y4 t p) (R7 t p) (Y4 t q) (R7 t q))
theorem ua (n m g kk sp0 sp1 gp y0 v0 z0 w0 l:Rat)(hn:n≠0)(hm:m≠0)(hl:l=v0*z0-w0*y0) :
  let y:=1*y0+gp/n*v0;let h:=1*z0+gp/n*w0;let uv:=0*y0+1*v0;let wv:=0*z0+1*w0;let a:=uv+n*g*y;let b:=wv+n*g*h;let v':=-(g*(m-n))*y+1*uv;let one:=-(a*a*y*(v'/(m*m)-uv/(n*n)));let r:=b/a;let four:=-(l*l*g*(1/m-1/n));let k:=kk*(g*g*g)*(m-n);let colour:=y*(sp1-sp0);let t:C0:=⟨false,gp/n,n*g,m*g,1/(m*m)-1/(n*n),g*(1/m-1/n),kk*(g*(g*g))*(m-n),sp1-sp0⟩
  a≠0 ->
  (⟨one+k*(y*y*y*y),r*one+k*(y*y*y*h),r*r*one+k*(y*y*h*h),four,r*(r*r*one+four)+k*(y*h*h*h),a*colour,b*colour⟩:Sums)=nV t y a h b:=by
 intro y h uv wv a b v' one r four k colour t ha;have e1:one=a*a*(y*(t.bend*y-t.square*a)):=by
  have q1:v'=a-m*g*y:=by grind
  have q2:uv=a-n*g*y:=by grind
  show -(a*a*y*(v'/(m*m)-uv/(n*n)))=a*a*(y*((g*(1/m-1/n))*y-(1/(m*m)-1/(n*n))*a));rw[q1,q2]
  clear_value a y
  grind
 have e4:l=a*h-b*y:=by
  show l=(uv+n*g*y)*h-(wv+n*g*h)*y;rw[hl]
  grind
 have e5:four=-t.bend*(a*h-b*y)*(a*h-b*y):=by
  show -(l*l*g*(1/m-1/n))=-(g*(1/m-1/n))*(a*h-b*y)*(a*h-b*y);rw[e4];grind
 have e6:k=t.conic:=by
  show kk*(g*g*g)*(m-n)=kk*(g*(g*g))*(m-n)
  grind
 have e7:colour=t.colour*y:=by
  show y*(sp1-sp0)=(sp1-sp0)*y
  grind
 have hr:r*a=b:=by
  show b/a*a=b
  clear_value a b
  grind
 rw[e1,e5,e6,e7];unfold nV;generalize t.bend=B;generalize t.square=S;generalize t.conic=C;generalize t.colour=E
 clear_value r a b y h
 clear e1 e4 e5 e6 e7 t;subst hr;congr 1<;>grind
theorem zo (s:System_)(line:Nat)(m c:Near)(i:Nat)(p q:Near)(hn:s.index line i≠0)(hm:s.index line (i+1)≠0)(hl:lagrange p q=lagrange m c):partBy s line m c i p q=bD (B1 s line i) p q:=by
 have key:∀ (kd:Kind),kd≠.halt_->(s.elem i).kind=kd->partBy s line m c i p q=bD (B1 s line i) p q:=λkd hk e=>by
  have e1:bendOf s line i=bend (s.elem i).curve (s.index line i) (s.index line (i+1)):=by unfold bendOf;rw[e];cases kd<;>first|rfl|exact absurd rfl hk
  have e2:B1 s line i=⟨false,s.gap i/s.index line i,s.index line i*(s.elem i).curve,s.index line (i+1)*(s.elem i).curve,1/(s.index line (i+1)*s.index line (i+1))-1/(s.index line i*s.index line i),(s.elem i).curve*(1/s.index line (i+1)-1/s.index line i),(s.elem i).conic*((s.elem i).curve*((s.elem i).curve*(s.elem i).curve))*(s.index line (i+1)-s.index line i),spreads s line (i+1)-spreads s line i⟩:=by unfold B1;rw[e];cases kd<;>first|rfl|exact absurd rfl hk
  have e3:partBy s line m c i p q=(
   let n:=s.index line i;let n':=s.index line (i+1);let g:=(s.elem i).curve;let u:=(transfer (s.gap i) n).on p;let w:=(transfer (s.gap i) n).on q;let a:=u.v+n*g*u.y;let b:=w.v+n*g*w.y
   if a=0 then none else
    let y:=u.y;let h:=w.y;let one:=-(a*a*y*(((bendOf s line i).on u).v/(n'*n')-u.v/(n*n)));let r:=b/a;let l:=lagrange m c;let four:=-(l*l*g*(1/n'-1/n));let k:=(s.elem i).conic*(g*g*g)*(n'-n);let colour:=y*(spreads s line (i+1)-spreads s line i)
    some ⟨one+k*(y*y*y*y),r*one+k*(y*y*y*h),r*r*one+k*(y*y*h*h),four,r*(r*r*one+four)+k*(y*h*h*h),a*colour,b*colour⟩):=by
   unfold partBy;rw[e];cases kd<;>first|rfl|exact absurd rfl hk
  rw[e3,e2];unfold bD;rw[if_neg (show ¬ (false=true) by decide)];have hy:Y4 ⟨false,s.gap i/s.index line i,s.index line i*(s.elem i).curve,s.index line (i+1)*(s.elem i).curve,1/(s.index line (i+1)*s.index line (i+1))-1/(s.index line i*s.index line i),(s.elem i).curve*(1/s.index line (i+1)-1/s.index line i),(s.elem i).conic*((s.elem i).curve*((s.elem i).curve*(s.elem i).curve))*(s.index line (i+1)-s.index line i),spreads s line (i+1)-spreads s line i⟩ p=((transfer (s.gap i) (s.index line i)).on p).y:=by
   simp only[Y4,transfer,Mat.on];grind
  have hz:Y4 ⟨false,s.gap i/s.index line i,s.index line i*(s.elem i).curve,s.index line (i+1)*(s.elem i).curve,1/(s.index line (i+1)*s.index line (i+1))-1/(s.index line i*s.index line i),(s.elem i).curve*(1/s.index line (i+1)-1/s.index line i),(s.elem i).conic*((s.elem i).curve*((s.elem i).curve*(s.elem i).curve))*(s.index line (i+1)-s.index line i),spreads s line (i+1)-spreads s line i⟩ q=((transfer (s.gap i) (s.index line i)).on q).y:=by
   simp only[Y4,transfer,Mat.on];grind
  have pv:((transfer (s.gap i) (s.index line i)).on p).v=p.v:=by simp only[transfer,Mat.on];grind
  have qv:((transfer (s.gap i) (s.index line i)).on q).v=q.v:=by simp only[transfer,Mat.on];grind
  have ha:R7 ⟨false,s.gap i/s.index line i,s.index line i*(s.elem i).curve,s.index line (i+1)*(s.elem i).curve,1/(s.index line (i+1)*s.index line (i+1))-1/(s.index line i*s.index line i),(s.elem i).curve*(1/s.index line (i+1)-1/s.index line i),(s.elem i).conic*((s.elem i).curve*((s.elem i).curve*(s.elem i).curve))*(s.index line (i+1)-s.index line i),spreads s line (i+1)-spreads s line i⟩ p=((transfer (s.gap i) (s.index line i)).on p).v+s.index line i*(s.elem i).curve*((transfer (s.gap i) (s.index line i)).on p).y:=by
   unfold R7;rw[hy,pv]
  have hb:R7 ⟨false,s.gap i/s.index line i,s.index line i*(s.elem i).curve,s.index line (i+1)*(s.elem i).curve,1/(s.index line (i+1)*s.index line (i+1))-1/(s.index line i*s.index line i),(s.elem i).curve*(1/s.index line (i+1)-1/s.index line i),(s.elem i).conic*((s.elem i).curve*((s.elem i).curve*(s.elem i).curve))*(s.index line (i+1)-s.index line i),spreads s line (i+1)-spreads s line i⟩ q=((transfer (s.gap i) (s.index line i)).on q).v+s.index line i*(s.elem i).curve*((transfer (s.gap i) (s.index line i)).on q).y:=by
   unfold R7;rw[hz,qv]
  dsimp only;rw[ha,hb,hy,hz];by_cases h0:((transfer (s.gap i) (s.index line i)).on p).v+s.index line i*(s.elem i).curve*((transfer (s.gap i) (s.index line i)).on p).y=0
  ·rw[if_pos h0,if_pos h0]
  ·rw[if_neg h0,if_neg h0];refine congrArg some ?_;rw[e1];exact ua (s.index line i) (s.index line (i+1)) (s.elem i).curve (s.elem i).conic (spreads s line i) (spreads s line (i+1)) (s.gap i) p.y p.v q.y q.v (lagrange m c) hn hm (by rw[<-hl];rfl) h0
 cases hk:(s.elem i).kind with
 |halt_ =>
  have e1:partBy s line m c i p q=some Sums.none:=by unfold partBy;rw[hk]
  have e2:(B1 s line i).stop=true:=by unfold B1;rw[hk]
  rw[e1];unfold bD;rw[if_pos e2]
 |mirror=>exact key _ (by simp) hk
 |surface g=>exact key _ (by simp) hk
noncomputable def mX (ts:List C0):Int:=ts.foldr (λt n=>t.walk.den*t.before.den*t.behind.den*n) 1
noncomputable def A9:List C0->Int->Int->List (Int×Int)
 |[],_,_=>[]
 |t::ts,h,a =>
  let h1:=h+t.walk.num*a/t.walk.den;let c:=a+t.before.num*h1/t.before.den
  (h1,c)::A9 ts h1 (c-t.behind.num*h1/t.behind.den)
noncomputable def bF:List C0->Int->Int->Int×Int
 |[],h,a=>(h,a)
 |t::ts,h,a =>
  let h1:=h+t.walk.num*a/t.walk.den;let c:=a+t.before.num*h1/t.before.den
  bF ts h1 (c-t.behind.num*h1/t.behind.den)
noncomputable def F4:List C0->Near->List (Rat×Rat)
 |[],_=>[]
 |t::ts,r=>(Y4 t r,R7 t r)::F4 ts (Q9 t r)
noncomputable def bE:List C0->Near->Near
 |[],r=>r
 |t::ts,r=>bE ts (Q9 t r)
theorem jw {n d x:Int}{q:Rat}(hn:n=q.num)(hd:d=(q.den:Int))(h:d∣x):((n*x/d:Int):Rat)=q*(x:Rat)/\∀ e:Int,d*e∣x->e∣n*x/d:=by
 have d0:d≠0:=by rw[hd];exact D4 q
 obtain⟨k,rfl⟩:=h;have e1:n*(d*k)/d=n*k:=by
  rw[show n*(d*k)=d*(n*k) by rw[<-Int.mul_assoc,Int.mul_comm n d,Int.mul_assoc],Int.mul_ediv_cancel_left _ d0]
 rw[e1];refine⟨?_,λe he=>?_⟩
 ·have h2:((d:Int):Rat)≠0:=by exact_mod_cast d0
  have eq:q=(n:Rat)/(d:Rat):=by rw[hn,hd];exact cg q
  rw[Rat.intCast_mul,Rat.intCast_mul,eq]
  grind
 ·exact Int.dvd_mul_of_dvd_right (Int.dvd_of_mul_dvd_mul_left d0 he)
theorem zS (t:C0)(ts:List C0)(N:Rat)(h a:Int)(r:Near)(hh:mX (t::ts)∣h)(ha:mX (t::ts)∣a)(eh:(h:Rat)=N*r.y)(ea:(a:Rat)=N*r.v) :
  let h1:=h+t.walk.num*a/t.walk.den;let c:=a+t.before.num*h1/t.before.den;let b:=c-t.behind.num*h1/t.behind.den
  (h1:Rat)=N*Y4 t r/\(c:Rat)=N*R7 t r/\(b:Rat)=N*(Q9 t r).v/\mX ts∣h1/\mX ts∣b:=by
 intro h1 c b;have er:mX (t::ts)=t.walk.den*t.before.den*t.behind.den*mX ts:=rfl;rw[er]at hh ha;generalize hR:mX ts=R at *;have da:(t.walk.den:Int)∣a:=Int.dvd_trans ⟨t.before.den*t.behind.den*R,by simp only[Int.mul_assoc]⟩ ha;obtain⟨w1,w2⟩:=jw (n:=t.walk.num) (d:=t.walk.den) rfl rfl da;have d1:t.before.den*t.behind.den*R∣t.walk.num*a/t.walk.den:=w2 _ (by rw[<-Int.mul_assoc,<-Int.mul_assoc];exact ha);have dh:t.before.den*t.behind.den*R∣h1:=Int.dvd_add (Int.dvd_trans ⟨t.walk.den,by grind⟩ hh) d1;have db:(t.before.den:Int)∣h1:=Int.dvd_trans ⟨t.behind.den*R,by simp only[Int.mul_assoc]⟩ dh;obtain⟨b1,b2⟩:=jw (n:=t.before.num) (d:=t.before.den) rfl rfl db;have d2:t.behind.den*R∣t.before.num*h1/t.before.den:=b2 _ (by rw[<-Int.mul_assoc];exact dh);have dc:(t.behind.den:Int)∣h1:=Int.dvd_trans ⟨t.before.den*R,by rw[Int.mul_comm (t.before.den:Int) t.behind.den];simp only[Int.mul_assoc]⟩ dh;obtain⟨c1,c2⟩:=jw (n:=t.behind.num) (d:=t.behind.den) rfl rfl dc;have d3:R∣t.behind.num*h1/t.behind.den:=c2 _ (Int.dvd_trans ⟨t.before.den,by rw[Int.mul_comm _ (t.before.den:Int)];simp only[Int.mul_assoc]⟩ dh);have e1:(h1:Rat)=N*Y4 t r:=by
  show((h+t.walk.num*a/t.walk.den:Int):Rat)=_;rw[Rat.intCast_add,w1,eh,ea];unfold Y4;grind
 have e2:(c:Rat)=N*R7 t r:=by
  show((a+t.before.num*h1/t.before.den:Int):Rat)=_;rw[Rat.intCast_add,b1,e1,ea];unfold R7;grind
 have e3:(b:Rat)=N*(Q9 t r).v:=by
  show((c-t.behind.num*h1/t.behind.den:Int):Rat)=_;rw[Rat.intCast_sub,c1,e1,e2];unfold Q9;grind
 refine⟨e1,e2,e3,Int.dvd_trans ⟨t.before.den*t.behind.den,by rw[Int.mul_comm]⟩ dh,?_⟩;refine Int.dvd_sub (Int.dvd_add ?_ (Int.dvd_trans ⟨t.behind.den,by rw[Int.mul_comm]⟩ d2)) d3;exact Int.dvd_trans ⟨t.walk.den*t.before.den*t.behind.den,by rw[Int.mul_comm]⟩ ha
theorem cW:∀ (ts:List C0) (N:Rat) (h a:Int) (r:Near),mX ts∣h->mX ts∣a->(h:Rat)=N*r.y->(a:Rat)=N*r.v ->
  (A9 ts h a).map (λp=>((p.1:Rat),(p.2:Rat)))=(F4 ts r).map λp=>(N*p.1,N*p.2)
 |[],_,_,_,_,_,_,_,_=>rfl
 |t::ts,N,h,a,r,hh,ha,eh,ea=>by
  obtain⟨e1,e2,e3,d1,d2⟩:=zS t ts N h a r hh ha eh ea;have ih:=cW ts N _ _ (Q9 t r) d1 d2 e1 e3;simp only[A9,F4,List.map_cons];rw[ih,e1,e2]
noncomputable def U7 (l:List Nat):Nat:=l.foldl (λm s=>m*(s/Nat.gcd m s)) 1
theorem oG (m s:Nat):m*(s/Nat.gcd m s)=Nat.lcm m s:=by
 unfold Nat.lcm;rw[Nat.mul_div_assoc _ (Nat.gcd_dvd_right m s)]
theorem oJ:∀ (l:List Nat) (m:Nat),m∣l.foldl (λm s=>m*(s/Nat.gcd m s)) m/\∀ x∈l,x∣l.foldl (λm s=>m*(s/Nat.gcd m s)) m
 |[],m=>⟨Nat.dvd_refl _,λx h=>absurd h (by simp)⟩
 |s::l,m=>by
  obtain⟨h1,h2⟩:=oJ l (m*(s/Nat.gcd m s));rw[List.foldl_cons];refine⟨Nat.dvd_trans ⟨_,rfl⟩ h1,λx hx=>?_⟩;rcases List.mem_cons.mp hx with rfl|hx
  ·refine Nat.dvd_trans ?_ h1;rw[oG];exact Nat.dvd_lcm_right _ _
  ·exact h2 x hx
theorem jm {l:List Nat}{x:Nat}(h:x∈l):x∣U7 l:=(oJ l 1).2 x h
theorem oH:∀ (l:List Nat) (m:Nat),0<m->(∀ x∈l,0<x)->0<l.foldl (λm s=>m*(s/Nat.gcd m s)) m
 |[],m,hm,_=>hm
 |s::l,m,hm,hl=>by
  rw[List.foldl_cons];refine oH l _ ?_ λx hx=>hl x (List.mem_cons_of_mem _ hx);rw[oG];exact Nat.lcm_pos hm (hl s (List.mem_cons_self ..))
theorem eR {l:List Nat}(h:∀ x∈l,0<x):0<U7 l:=oH l 1 (by decide) h
theorem ie:∀ (l:List Nat) (m n k:Nat),m<2^n->(∀ x∈l,x<2^k)->l.foldl (λm s=>m*(s/Nat.gcd m s)) m<2^(n+l.length*k)
 |[],m,n,k,hm,_=>by simpa using hm
 |s::l,m,n,k,hm,hl=>by
  rw[List.foldl_cons];have h1:m*(s/Nat.gcd m s)<2^(n+k):=R6 hm (Nat.lt_of_le_of_lt (Nat.div_le_self _ _) (hl s (List.mem_cons_self ..)));have:=ie l _ (n+k) k h1 λx hx=>hl x (List.mem_cons_of_mem _ hx);rw[List.length_cons,Nat.add_mul,Nat.one_mul];rw[show n+(l.length*k+k)=n+k+l.length*k by omega];exact this
noncomputable def y8 (t:C0):Nat:=U7 [t.square.den,t.bend.den,t.conic.den,t.colour.den]
theorem lE (t:C0):0<y8 t:=eR λx hx=>by
 simp only[List.mem_cons,List.not_mem_nil,or_false]at hx;rcases hx with rfl|rfl|rfl|rfl<;>exact Rat.den_pos _
noncomputable def F0 (q:Rat)(s:Int):Int:=q.num*(s/q.den)
theorem ku {q:Rat}{s:Int}(h:(q.den:Int)∣s):((F0 q s:Int):Rat)=q*(s:Rat):=by
 obtain⟨k,rfl⟩:=h;unfold F0;have d0:(q.den:Int)≠0:=D4 q;rw[Int.mul_ediv_cancel_left _ d0];have h2:(((q.den:Int)):Rat)≠0:=by exact_mod_cast d0
 have eq:=cg q;rw[Rat.intCast_mul,Rat.intCast_mul];generalize hn:(q.num:Rat)=n at *;generalize hd:(((q.den:Int)):Rat)=d at *;rw[eq]
 grind
noncomputable def cM (t : C0) (y a z b : Int) : List Int :=
  let s : Int := y8 t;let sq := F0 t.square s;let bd := F0 t.bend s;let cn := F0 t.conic s * y;let cl := F0 t.colour s * y;let core := y * (bd * y-sq * a);let iv := a * z-b * y
  [a * a * core + cn * y * (y * y), a * b * core + cn * y * (y * z), b * b * core + cn * y * (z * z), -bd * iv * iv,
   b * (bd * z * (2 * b * y-a * z)-sq * y * (b * b)) + cn * z * (z * z), a * cl, b * cl]
noncomputable def eI (l:List Int):List Rat:=l.map λ(x:Int)=>(x:Rat)
noncomputable def S7 (x:Sums):List Rat:=[x.s1,x.s2,x.s3,x.s4,x.s5,x.c1,x.c2]
noncomputable def O3 (f g:Rat)(x:Sums):List Rat:=[f*x.s1,f*x.s2,f*x.s3,f*x.s4,f*x.s5,g*x.c1,g*x.c2]
theorem tO (t:C0)(N y a z b:Rat)(yi ai zi bi:Int)(hy:(yi:Rat)=N*y)(ha:(ai:Rat)=N*a)(hz:(zi:Rat)=N*z)(hb:(bi:Rat)=N*b) :
  eI (cM t yi ai zi bi)=O3 (N*N*(N*N)*(y8 t:Rat)) (N*N*(y8 t:Rat)) (nV t y a z b):=by
 have dv:∀ q∈[t.square,t.bend,t.conic,t.colour],(q.den:Int)∣((y8 t:Nat):Int):=λq hq=>by
  refine Int.natCast_dvd_natCast.mpr (jm ?_);simp only[List.mem_cons,List.not_mem_nil,or_false]at hq⊢;rcases hq with rfl|rfl|rfl|rfl<;>simp
 have e1:=ku (dv t.square (by simp));have e2:=ku (dv t.bend (by simp));have e3:=ku (dv t.conic (by simp));have e4:=ku (dv t.colour (by simp));have es:(((y8 t:Nat):Int):Rat)=(y8 t:Rat):=rfl;rw[es]at e1 e2 e3 e4;unfold cM eI O3 nV;simp only[List.map_cons,List.map_nil,Rat.intCast_add,Rat.intCast_mul,Rat.intCast_sub,Rat.intCast_neg,e1,e2,e3,e4,hy,ha,hz,hb];have e5:(((2:Int)):Rat)=2:=rfl;rw[e5];generalize(y8 t:Rat)=S;generalize t.square=A;generalize t.bend=B;generalize t.conic=C;generalize t.colour=E;clear dv e1 e2 e3 e4 es e5 hy ha hz hb;congr 1
 ·grind
 congr 1
 ·grind
 congr 1
 ·grind
 congr 1
 ·grind
 congr 1
 ·grind
 congr 1
 ·grind
 congr 1
 ·grind
noncomputable def bA:List C0->Near->Near->Sums->Option Sums
 |[],_,_,x=>some x
 |t::ts,p,q,x=>match bD t p q with
  |some y=>bA ts (Q9 t p) (Q9 t q) (x.plus y)
  |none=>none
noncomputable def A2 (s:System_)(line i k:Nat):List C0:=(List.range' i k).map (B1 s line)
noncomputable def bV (s:System_)(line:Nat):List C0:=A2 s line 0 s.count
theorem gm (s:System_)(line:Nat)(m c:Near)(hn:∀ i,s.index line i≠0):∀ (k i:Nat) (p q:Near) (x:Sums),lagrange p q=lagrange m c ->
  sumsFrom s line m c k i p q x=bA (A2 s line i k) p q x
 |0,_,_,_,_,_=>rfl
 |k+1,i,p,q,x,hl=>by
  have e:A2 s line i (k+1)=B1 s line i::A2 s line (i+1) k:=by
   unfold A2;rw[List.range'_succ];rfl
  rw[e];show(match partBy s line m c i p q with
   |some y=>sumsFrom s line m c k (i+1) ((stepOf s line i).on p) ((stepOf s line i).on q) (x.plus y)
   |none=>none)=_
  rw[zo s line m c i p q (hn i) (hn (i+1)) hl,lz s line i p (hn i),lz s line i q (hn i)];show _=match bD (B1 s line i) p q with
   |some y=>bA (A2 s line (i+1) k) (Q9 (B1 s line i) p) (Q9 (B1 s line i) q) (x.plus y)
   |none=>none
  cases bD (B1 s line i) p q with
  |none=>rfl
  |some y=>exact gm s line m c hn k (i+1) _ _ _ (by rw[xI];exact hl)
theorem tJ (s:System_)(line:Nat)(m c:Near)(hn:∀ i,s.index line i≠0):sumsOf s line m c=bA (bV s line) m c Sums.none :=
 gm s line m c hn _ _ _ _ _ rfl
theorem ji (s:System_)(line:Nat)(hn:∀ i,s.index line i≠0)(r:Near):∀ (k i:Nat),(matTo s line (i+k)).on r=bE (A2 s line i k) ((matTo s line i).on r)
 |0,i=>rfl
 |k+1,i=>by
  have e:A2 s line i (k+1)=B1 s line i::A2 s line (i+1) k:=by
   unfold A2;rw[List.range'_succ];rfl
  rw[e];have ih:=ji s line hn r k (i+1);rw[show i+(k+1)=i+1+k by omega,ih];show _=bE _ (Q9 (B1 s line i) _);rw[<-lz s line i _ (hn i),qr]
theorem oq (s:System_)(line:Nat)(hn:∀ i,s.index line i≠0)(r:Near):(matAll s line).on r=bE (bV s line) r:=by
 have:=ji s line hn r s.count 0;rw[Nat.zero_add]at this;unfold matAll bV;rw[this];show bE _ (one.on r)=_;rw[Co]
noncomputable def P4 (t:C0)(m c:Int×Int):Option (List Int):=if t.stop=true then some [0,0,0,0,0,0,0]else if m.2=0 then none else some (cM t m.1 m.2 c.1 c.2)
noncomputable def gh:List Int->List (List Int×Int)->Int->List Int
 |tot,[],_=>tot
 |tot,(p,s)::r,cm=>gh (List.zipWith (λt n=>t+n*(cm/s)) tot p) r cm
noncomputable def D3:List C0->List ((Int×Int)×(Int×Int))->Option (List (List Int))
 |t::ts,(m,c)::r=>match P4 t m c with
  |some p=>(D3 ts r).map λps=>p::ps
  |none=>none
 |_,_=>some []
theorem wW (t:C0)(N:Rat)(hN:N≠0)(p q:Near)(mi ci:Int×Int)(h1:(mi.1:Rat)=N*Y4 t p)(h2:(mi.2:Rat)=N*R7 t p)(h3:(ci.1:Rat)=N*Y4 t q)(h4:(ci.2:Rat)=N*R7 t q) :
  (P4 t mi ci).map eI=(bD t p q).map λx=>O3 (N*N*(N*N)*(y8 t:Rat)) (N*N*(y8 t:Rat)) x:=by
 unfold P4 bD;by_cases hs:t.stop=true
 ·rw[if_pos hs,if_pos hs];simp only[Option.map_some,O3,Sums.none,eI,List.map_cons,List.map_nil];have e0:(((0:Int)):Rat)=0:=rfl;rw[e0];simp only[Rat.mul_zero]
 ·rw[if_neg hs,if_neg hs];by_cases ha:R7 t p=0
  ·have:mi.2=0:=by
    rw[ha,Rat.mul_zero]at h2
    exact_mod_cast h2
   rw[if_pos ha,if_pos this];rfl
  ·have:¬ mi.2=0:=by
    intro z;rw[z]at h2;have h2':(0:Rat)=N*R7 t p:=h2;rcases Rat.mul_eq_zero.mp h2'.symm with q|q
    ·exact hN q
    ·exact ha q
   rw[if_neg ha,if_neg this];exact congrArg some (tO t N _ _ _ _ _ _ _ _ h1 h2 h3 h4)
theorem wx {l:List Int}{r1 r2 r3 r4 r5 r6 r7:Rat}(h:(l.map λ(x:Int)=>(x:Rat))=[r1,r2,r3,r4,r5,r6,r7]):∃ a1 a2 a3 a4 a5 a6 a7:Int,l=[a1,a2,a3,a4,a5,a6,a7]/\(a1:Rat)=r1/\(a2:Rat)=r2/\(a3:Rat)=r3/\(a4:Rat)=r4/\(a5:Rat)=r5/\(a6:Rat)=r6/\(a7:Rat)=r7:=by
 have hl:l.length=7:=by simpa using congrArg List.length h
 match l,hl with
 |[a1,a2,a3,a4,a5,a6,a7],_ =>
  simp only[List.map_cons,List.map_nil,List.cons.injEq,and_true]at h;exact⟨a1,a2,a3,a4,a5,a6,a7,rfl,h⟩
theorem sY:∀ (ts:List C0) (N:Rat) (hN:N≠0) (p q:Near) (ms cs:List (Int×Int)) (cm:Int) (tot:List Int) (x:Sums),
  ms.map (λz=>((z.1:Rat),(z.2:Rat)))=(F4 ts p).map (λz=>(N*z.1,N*z.2))->cs.map (λz=>((z.1:Rat),(z.2:Rat)))=(F4 ts q).map (λz=>(N*z.1,N*z.2)) ->
  (∀ t∈ts,((y8 t:Nat):Int)∣cm)->eI tot=O3 (N*N*(N*N)*(cm:Rat)) (N*N*(cm:Rat)) x ->
  ((D3 ts (ms.zip cs)).map λps=>eI (gh tot (ps.zip (ts.map λt=>((y8 t:Nat):Int))) cm))=(bA ts p q x).map λy=>O3 (N*N*(N*N)*(cm:Rat)) (N*N*(cm:Rat)) y
 |[],N,hN,p,q,ms,cs,cm,tot,x,hm,hc,hd,ht=>by
  cases ms with
  |cons=>simp[F4]at hm
  |nil =>
   show some (eI (gh tot [] cm))=some _;exact congrArg some ht
 |t::ts,N,hN,p,q,ms,cs,cm,tot,x,hm,hc,hd,ht=>by
  cases ms with
  |nil=>simp[F4]at hm
  |cons mi ms =>
   cases cs with
   |nil=>simp[F4]at hc
   |cons ci cs =>
    simp only[F4,List.map_cons,List.cons.injEq,Prod.mk.injEq]at hm hc;obtain⟨⟨m1,m2⟩,hm⟩:=hm;obtain⟨⟨c1,c2⟩,hc⟩:=hc;have hp:=wW t N hN p q mi ci m1 m2 c1 c2;show((match P4 t mi ci with
     |some p=>(D3 ts (ms.zip cs)).map λps=>p::ps
     |none=>none).map λ(ps:List (List Int))=>eI (gh tot (ps.zip (((y8 t:Nat):Int)::ts.map λt=>((y8 t:Nat):Int))) cm))=(match bD t p q with
     |some y=>bA ts (Q9 t p) (Q9 t q) (x.plus y)
     |none=>none).map λy=>O3 (N*N*(N*N)*(cm:Rat)) (N*N*(cm:Rat)) y
    cases hI:P4 t mi ci with
    |none =>
     rw[hI]at hp;cases hO:bD t p q with
     |none=>rfl
     |some y=>rw[hO]at hp;cases hp
    |some pi =>
     rw[hI]at hp;cases hO:bD t p q with
     |none=>rw[hO]at hp;cases hp
     |some y =>
      rw[hO]at hp;have hp':eI pi=O3 (N*N*(N*N)*(y8 t:Rat)) (N*N*(y8 t:Rat)) y:=Option.some.inj hp;have ht':eI (List.zipWith (λa n=>a+n*(cm/((y8 t:Nat):Int))) tot pi)=O3 (N*N*(N*N)*(cm:Rat)) (N*N*(cm:Rat)) (x.plus y):=by
       obtain⟨k,hk⟩:=hd t (List.mem_cons_self ..);have s0:((y8 t:Nat):Int)≠0:=by have:=lE t;omega
       have ek:cm/((y8 t:Nat):Int)=k:=by rw[hk,Int.mul_ediv_cancel_left _ s0]
       have ecm:(cm:Rat)=(y8 t:Rat)*(k:Rat):=by rw[hk,Rat.intCast_mul];rfl
       rw[ek];unfold eI O3 at hp' ht⊢;obtain⟨a1,a2,a3,a4,a5,a6,a7,rfl,t1,t2,t3,t4,t5,t6,t7⟩:=wx ht;obtain⟨b1,b2,b3,b4,b5,b6,b7,rfl,p1,p2,p3,p4,p5,p6,p7⟩:=wx hp'
       ·simp only[List.zipWith_cons_cons,List.zipWith_nil_right,List.map_cons,List.map_nil,Rat.intCast_add,Rat.intCast_mul,t1,t2,t3,t4,t5,t6,t7,p1,p2,p3,p4,p5,p6,p7,Sums.plus];rw[ecm];clear t1 t2 t3 t4 t5 t6 t7 p1 p2 p3 p4 p5 p6 p7;generalize(y8 t:Rat)=S;generalize(k:Rat)=kk;congr 1
        ·grind
        congr 1
        ·grind
        congr 1
        ·grind
        congr 1
        ·grind
        congr 1
        ·grind
        congr 1
        ·grind
        congr 1
        ·grind
      have ih:=sY ts N hN (Q9 t p) (Q9 t q) ms cs cm _ (x.plus y) hm hc (λu hu=>hd u (List.mem_cons_of_mem _ hu)) ht';dsimp only;rw[<-ih];cases D3 ts (ms.zip cs)<;>rfl
noncomputable def gN (n:Nat):List Nat:=(Nat.toDigits 10 n).map Char.toNat
theorem FT:∀ d:Nat,d<10->(Nat.digitChar d).toNat=48+d:=by decide
theorem As {n:Nat}(h:n<10):gN n=[48+n]:=by
 unfold gN;rw[Nat.toDigits_of_lt_base h];show[(Nat.digitChar n).toNat]=_;rw[FT n h]
theorem uK {n:Nat}(h:10<=n):gN n=gN (n/10)++[48+n%10]:=by
 have hm:n%10<10:=Nat.mod_lt n (by decide);have t:Nat.toDigits 10 (n/10)++Nat.toDigits 10 (n%10)=Nat.toDigits 10 (10*(n/10)+n%10):=Nat.toDigits_append_toDigits (by decide) (by omega) hm;rw[Nat.div_add_mod]at t;show(Nat.toDigits 10 n).map Char.toNat=_;rw[<-t,List.map_append,Nat.toDigits_of_lt_base hm];show(Nat.toDigits 10 (n/10)).map Char.toNat++[(Nat.digitChar (n%10)).toNat]=_;rw[FT _ hm]<;>rfl
noncomputable def W0 (b:Bytes):List Nat:=b.map λ(c:UInt8)=>c.toNat
theorem Az {m:Nat}(h:m<256):(UInt8.ofNat m).toNat=m:=by
 rw[UInt8.toNat_ofNat'];exact Nat.mod_eq_of_lt h
theorem gI:∀ (k n:Nat),n<2^k->0<k->W0 (Num.digitsIn k n)=gN n
 |0,_,_,h=>absurd h (by decide)
 |k+1,n,h,_=>by
  show W0 ((if n<10 then[]else Num.digitsIn k (n/10))++[UInt8.ofNat (48+n%10)])=_;unfold W0;rw[List.map_append];show _++[(UInt8.ofNat (48+n%10)).toNat]=_;rw[Az (by omega)];by_cases h1:n<10
  ·rw[if_pos h1,As h1,Nat.mod_eq_of_lt h1];rfl
  ·rw[if_neg h1,uK (by omega)];have h2:n/10<2^k:=by rw[Nat.pow_succ]at h;omega
   have h3:0<k:=by
    cases k with
    |zero=>simp at h2;omega
    |succ=>omega
   have ih:=gI k (n/10) h2 h3;unfold W0 at ih;rw[ih]
theorem jz (n:Nat):W0 (Num.decimal n)=gN n:=gI _ _ Nat.lt_log2_self (Nat.succ_pos _)
noncomputable def jP (i:Int):List Nat:=(if i<0 then[45]else[])++gN i.natAbs
noncomputable def N6 (q:Rat):List Nat:=if q.den=1 then jP q.num else jP q.num++(47::gN q.den)
theorem ph (q:Rat):W0 (Num.exactText q)=N6 q:=by
 unfold Num.exactText N6 jP W0;have hs:(q<0)=(q.num<0):=by
  refine propext ⟨λh=>?_,λh=>?_⟩
  ·rcases Int.lt_or_le q.num 0 with z|z
   ·exact z
   ·have:=Rat.num_nonneg.mp z;grind
  ·have:¬ 0<=q:=λz=>by have:=Rat.num_nonneg.mpr z;omega
   exact Rat.not_le.mp this
 simp only[hs,List.map_append];have e1:(Num.decimal q.num.natAbs).map (λ(c:UInt8)=>c.toNat)=gN q.num.natAbs:=jz _;have e2:(Num.decimal q.den).map (λ(c:UInt8)=>c.toNat)=gN q.den:=jz _;rw[e1];have e3:(ascii "-").map (λ(c:UInt8)=>c.toNat)=[45]:=by decide +kernel
 have e4:(ascii "/").map (λ(c:UInt8)=>c.toNat)=[47]:=by decide +kernel
 by_cases h:q.num<0
 ·simp only[h,if_true,e3];by_cases h2:q.den=1
  ·simp[h2]
  ·simp only[h2,if_false,List.map_append,e4,e2];simp
 ·simp only[h,if_false];by_cases h2:q.den=1
  ·simp[h2]
  ·simp only[h2,if_false,List.map_append,e4,e2];simp
noncomputable def ah:List (List Nat)->List Nat
 |[]=>[]
 |[x]=>x
 |x::y::r=>x++32::ah (y::r)
theorem rX:∀ l:List Rat,W0 (Num.listText l)=ah (l.map N6)
 |[]=>rfl
 |[q]=>ph q
 |q::p::r=>by
  have ih:=rX (p::r);show W0 (Num.exactText q++(32::Num.listText (p::r)))=N6 q++32::ah ((p::r).map N6);rw[<-ih,<-ph q];unfold W0;rw[List.map_append];rfl
noncomputable def M3 (l:List Rat):List Int:=if l.all Num.tellable=false then[-6]else((ah (l.map N6)).length:Int)::(ah (l.map N6)).map λ(n:Nat)=>(n:Int)
theorem ya (l:List Rat):LensDNeutral.shown (LensD.gives l)=M3 l:=by
 unfold LensD.gives M3;by_cases h:l.all Num.tellable=false
 ·rw[if_pos h,if_pos h];rfl
 ·rw[if_neg h,if_neg h];have e:=rX l;show((Num.listText l).length:Int)::([]++(Num.listText l).map λ(c:UInt8)=>(c.toNat:Int))=_;rw[<-e];unfold W0;rw[List.length_map,List.map_map];rfl
noncomputable def Y5 (l:List Rat):Int:=l.foldl (λn q=>n*(q.den:Int)) 1
noncomputable def oA (ts:List C0)(n:Int):Int:=ts.foldl (λn t=>n*(t.walk.den*t.before.den*t.behind.den)) n
theorem eQ:∀ (ts:List C0) (n:Int),oA ts n=n*mX ts
 |[],n=>(Int.mul_one n).symm
 |t::ts,n=>by
  show oA ts (n*(t.walk.den*t.before.den*t.behind.den))=_;rw[eQ ts,Int.mul_assoc];rfl
theorem Z9:∀ (l:List Rat) (n:Int),l.foldl (λn q=>n*(q.den:Int)) n=n*Y5 l
 |[],n=>(Int.mul_one n).symm
 |q::l,n=>by
  unfold Y5;rw[List.foldl_cons,List.foldl_cons,Z9 l,Z9 l,Int.one_mul,Int.mul_assoc]
theorem oF:∀ (l:List Rat) (q:Rat),q∈l->(q.den:Int)∣Y5 l
 |[],q,h=>absurd h (by simp)
 |p::l,q,h=>by
  have e:Y5 (p::l)=p.den*Y5 l:=by
   unfold Y5;rw[List.foldl_cons,Z9 l,Int.one_mul];rfl
  rw[e];rcases List.mem_cons.mp h with rfl|h
  ·exact⟨_,rfl⟩
  ·exact Int.dvd_trans (oF l q h) ⟨p.den,Int.mul_comm _ _⟩
theorem rK:∀ ts:List C0,0<mX ts
 |[]=>by decide
 |t::ts=>by
  have h:=rK ts;have d:∀ q:Rat,(0:Int)<(q.den:Int):=λq=>by have:=q.den_pos;omega
  exact Int.mul_pos (Int.mul_pos (Int.mul_pos (d _) (d _)) (d _)) h
theorem oB:∀ l:List Rat,0<Y5 l
 |[]=>by decide
 |q::l=>by
  have e:Y5 (q::l)=q.den*Y5 l:=by
   unfold Y5;rw[List.foldl_cons,Z9 l,Int.one_mul];rfl
  rw[e];have:=q.den_pos;exact Int.mul_pos (by omega) (oB l)
noncomputable def B6 (ts:List C0)(rays:List Rat):Int:=oA ts (Y5 rays)
theorem jk (ts:List C0)(rays:List Rat):0<B6 ts rays:=by
 unfold B6;rw[eQ];exact Int.mul_pos (oB _) (rK _)
theorem Z6 (ts:List C0)(rays:List Rat)(q:Rat)(h:q∈rays):mX ts∣F0 q (B6 ts rays)/\((F0 q (B6 ts rays):Int):Rat)=(B6 ts rays:Rat)*q:=by
 obtain⟨k,hk⟩:=oF rays q h;have e:B6 ts rays=q.den*(k*mX ts):=by unfold B6;rw[eQ,hk,Int.mul_assoc]
 refine⟨?_,?_⟩
 ·unfold F0;rw[e,Int.mul_ediv_cancel_left _ (D4 q)];exact Int.dvd_mul_of_dvd_right ⟨k,Int.mul_comm _ _⟩
 ·rw[ku ⟨_,e⟩,Rat.mul_comm]
noncomputable def R8 (N s:Int):List Int:=[N*N*(N*N)*s,N*N*(N*N)*s,N*N*(N*N)*s,N*N*(N*N)*s,N*N*(N*N)*s,N*N*s,N*N*s]
noncomputable def du (ts:List C0)(N:Int)(y v z w:Rat):List ((Int×Int)×(Int×Int)):=(A9 ts (F0 y N) (F0 v N)).zip (A9 ts (F0 z N) (F0 w N))
noncomputable def S4:List Int:=[0,0,0,0,0,0,0]
noncomputable def z7 (ts:List C0):Nat:=U7 (ts.map y8)
noncomputable def bB (ts:List C0)(y v z w:Rat):Option (List Int) :=
 (D3 ts (du ts (B6 ts [y,v,z,w]) y v z w)).map λps=>gh S4 (ps.zip (ts.map λt=>((y8 t:Nat):Int))) (z7 ts)
noncomputable def w9 (l:List (Int×Int)):List Rat:=l.map λp=>(p.1:Rat)/(p.2:Rat)
theorem Bm {a:Rat}(h:a≠0)(q:Rat):a*q/a=q:=by grind
theorem B2 {a b:Rat}(h:a≠0)(h':b≠0):a*b≠0:=λz=>(Rat.mul_eq_zero.mp z).elim h h'
theorem nF {tot:List Int}{N s:Int}{x:Sums}(hN:N≠0)(hs:s≠0)(h:eI tot=O3 ((N:Rat)*N*(N*N)*(s:Rat)) ((N:Rat)*N*(s:Rat)) x):w9 (tot.zip (R8 N s))=S7 x:=by
 obtain⟨a1,a2,a3,a4,a5,a6,a7,rfl,t1,t2,t3,t4,t5,t6,t7⟩:=wx (l:=tot) h;have hN':(N:Rat)≠0:=by exact_mod_cast hN
 have hs':(s:Rat)≠0:=by exact_mod_cast hs
 unfold w9 R8 S7;simp only[List.zip_cons_cons,List.zip_nil_right,List.map_cons,List.map_nil,Rat.intCast_mul,t1,t2,t3,t4,t5,t6,t7];have e:∀ q:Rat,(N:Rat)*N*(N*N)*(s:Rat)*q/((N:Rat)*N*(N*N)*(s:Rat))=q:=Bm (B2 (B2 (B2 hN' hN') (B2 hN' hN')) hs');have e2:∀ q:Rat,(N:Rat)*N*(s:Rat)*q/((N:Rat)*N*(s:Rat))=q:=Bm (B2 (B2 hN' hN') hs');simp only[e,e2]
theorem dX (ts:List C0):0<z7 ts:=eR λx hx=>by
 obtain⟨t,_,rfl⟩:=List.mem_map.mp hx;exact lE t
theorem nr (ts:List C0)(y v z w:Rat):(bB ts y v z w).map (λtot=>w9 (tot.zip (R8 (B6 ts [y,v,z,w]) (z7 ts))))=(bA ts ⟨y,v⟩ ⟨z,w⟩ Sums.none).map S7:=by
 have hN:=jk ts [y,v,z,w];generalize hn:B6 ts [y,v,z,w]=N at hN;have s1:=Z6 ts [y,v,z,w] y (by simp);have s2:=Z6 ts [y,v,z,w] v (by simp);have s3:=Z6 ts [y,v,z,w] z (by simp);have s4:=Z6 ts [y,v,z,w] w (by simp);rw[hn]at s1 s2 s3 s4;have f1:=cW ts (N:Rat) (F0 y N) (F0 v N) ⟨y,v⟩ s1.1 s2.1 s1.2 s2.2;have f2:=cW ts (N:Rat) (F0 z N) (F0 w N) ⟨z,w⟩ s3.1 s4.1 s3.2 s4.2;have hN':(N:Rat)≠0:=by
  have:N≠0:=by omega
  exact_mod_cast this
 have z0:eI S4=O3 ((N:Rat)*N*(N*N)*((z7 ts:Nat):Int)) ((N:Rat)*N*(((z7 ts:Nat):Int):Rat)) Sums.none:=by
  unfold eI S4 O3 Sums.none;simp only[List.map_cons,List.map_nil,Rat.mul_zero];rfl
 have key:=sY ts (N:Rat) hN' ⟨y,v⟩ ⟨z,w⟩ _ _ ((z7 ts:Nat):Int) S4 Sums.none f1 f2 (λt ht=>Int.natCast_dvd_natCast.mpr (jm (List.mem_map.mpr ⟨t,ht,rfl⟩))) z0;unfold bB du;rw[hn];cases hp:D3 ts ((A9 ts (F0 y N) (F0 v N)).zip (A9 ts (F0 z N) (F0 w N)))with
 |none =>
  rw[hp]at key;cases hs:bA ts ⟨y,v⟩ ⟨z,w⟩ Sums.none with
  |none=>rfl
  |some x=>rw[hs]at key;cases key
 |some ps =>
  rw[hp]at key;cases hs:bA ts ⟨y,v⟩ ⟨z,w⟩ Sums.none with
  |none=>rw[hs]at key;cases key
  |some x =>
   rw[hs]at key;have k:=Option.some.inj key;have c0:((z7 ts:Nat):Int)≠0:=by have:=dX ts;omega
   exact congrArg some (nF (by omega) c0 k)
noncomputable def B (n:Nat)(x:Int):Prop:=x.natAbs<2^n
theorem B.mono {n m:Nat}{x:Int}(h:B n x)(le:n<=m):B m x:=Nat.lt_of_lt_of_le h (Nat.pow_le_pow_right (by decide) le)
theorem B.mul {n m:Nat}{x y:Int}(h:B n x)(h':B m y):B (n+m) (x*y):=by
 unfold B at *;rw[Int.natAbs_mul];exact R6 h h'
theorem B.add {n:Nat}{x y:Int}(h:B n x)(h':B n y):B (n+1) (x+y):=by
 unfold B at *;rw[Nat.pow_succ];have:=Int.natAbs_add_le x y;omega
theorem B.neg {n:Nat}{x:Int}(h:B n x):B n (-x):=by unfold B at *;rw[Int.natAbs_neg];exact h
theorem B.sub {n:Nat}{x y:Int}(h:B n x)(h':B n y):B (n+1) (x-y):=by
 rw[Int.sub_eq_add_neg];exact h.add h'.neg
theorem B.div {n:Nat}{x:Int}{d:Nat}(h:B n x):B n (x/(d:Int)):=by
 unfold B at *;cases d with
 |zero=>simp;exact Nat.pow_pos (by decide)
 |succ d =>
  have h1:(x/((d+1:Nat):Int)).natAbs<=x.natAbs:=Int.natAbs_ediv_le_natAbs ..;omega
theorem B.one:B 1 1:=by unfold B;decide
theorem Sz.num {n:Nat}{q:Rat}(h:Sz n q):B n q.num:=h.1
theorem Sz.den {n:Nat}{q:Rat}(h:Sz n q):B n (q.den:Int):=h.2
structure K5 (t:C0):Prop where
 walk:Sz 130 t.walk
 before:Sz 130 t.before
 behind:Sz 130 t.behind
 square:Sz 400 t.square
 bend:Sz 400 t.bend
 conic:Sz 400 t.conic
 colour:Sz 400 t.colour
theorem wH:∀ (ts:List C0),(∀ t∈ts,K5 t)->B (1+390*ts.length) (mX ts)
 |[],_=>B.one
 |t::ts,h=>by
  have ih:=wH ts λu hu=>h u (List.mem_cons_of_mem _ hu);have o:=h t (List.mem_cons_self ..);have:B (130+130+130+(1+390*ts.length)) (mX (t::ts)):=((o.walk.den.mul o.before.den).mul o.behind.den).mul ih;refine this.mono ?_;rw[List.length_cons];omega
theorem me:∀ (l:List Rat) (n:Nat),(∀ q∈l,Sz n q)->B (1+n*l.length) (Y5 l)
 |[],_,_=>B.one
 |q::l,n,h=>by
  have e:Y5 (q::l)=q.den*Y5 l:=by
   unfold Y5;rw[List.foldl_cons,Z9 l,Int.one_mul];rfl
  rw[e];have ih:=me l n λu hu=>h u (List.mem_cons_of_mem _ hu);have:=(h q (List.mem_cons_self ..)).den.mul ih;refine this.mono ?_;rw[List.length_cons,Nat.mul_add];omega
theorem mf (ts:List C0)(rays:List Rat)(n:Nat)(h:∀ t∈ts,K5 t)(hr:∀ q∈rays,Sz n q):B (2+n*rays.length+390*ts.length) (B6 ts rays):=by
 unfold B6;rw[eQ];refine((me rays n hr).mul (wH ts h)).mono ?_;omega
theorem rD (t:C0)(h:K5 t):y8 t<2^1601:=by
 have:=ie [t.square.den,t.bend.den,t.conic.den,t.colour.den] 1 1 400 (by decide) λx hx=>by
  simp only[List.mem_cons,List.not_mem_nil,or_false]at hx;rcases hx with rfl|rfl|rfl|rfl
  ·exact h.square.2
  ·exact h.bend.2
  ·exact h.conic.2
  ·exact h.colour.2
 exact this
theorem jB (ts:List C0)(h:∀ t∈ts,K5 t):z7 ts<2^(1+1601*ts.length):=by
 have:=ie (ts.map y8) 1 1 1601 (by decide) λx hx=>by
  obtain⟨t,ht,rfl⟩:=List.mem_map.mp hx;exact rD t (h t ht)
 rw[List.length_map,Nat.mul_comm]at this;exact this
theorem xx {t:C0}(o:K5 t){n:Nat}{h a:Int}(hh:B n h)(ha:B n a) :
  let h1:=h+t.walk.num*a/t.walk.den;let c:=a+t.before.num*h1/t.before.den;let b:=c-t.behind.num*h1/t.behind.den
  B (n+131) h1/\B (n+262) c/\B (n+263) b:=by
 intro h1 c b;have e1:B (n+131) h1:=((hh.mono (by omega)).add ((o.walk.num.mul ha).div.mono (Nat.le_of_eq (Nat.add_comm 130 n)))).mono (by omega);have e2:B (n+262) c:=((ha.mono (by omega)).add ((o.before.num.mul e1).div (d:=t.before.den))).mono (by omega);refine⟨e1,e2,?_⟩;exact(e2.sub (((o.behind.num.mul e1).div (d:=t.behind.den)).mono (by omega))).mono (by omega)
theorem aB {p:UInt8->Bool}:∀ (l:Bytes),l.take (l.takeWhile p).length=l.takeWhile p
 |[]=>rfl
 |a::l=>by
  cases h:p a with
  |true=>simp[List.takeWhile_cons,h,aB l]
  |false=>simp[List.takeWhile_cons,h]
theorem O1 {p:UInt8->Bool}:∀ (l:Bytes),(l.takeWhile p).all p=true
 |[]=>rfl
 |a::l=>by
  cases h:p a with
  |true=>simp only[List.takeWhile_cons,h,if_true,List.all_cons,O1 l];rfl
  |false=>simp[List.takeWhile_cons,h]
theorem tE {c:Bytes}{n k:Nat}{pt:Bool}(h:(tokenIn c).1=.num n k pt):tokenIn c=numberIn c:=by
 cases c with
 |nil=>simp[tokenIn]at h
 |cons x r =>
  by_cases h1:isLetter x=true
  ·simp only[tokenIn,h1,if_true]at h;split at h
   ·cases h
   ·split at h<;>cases h
  ·by_cases h2:isDigit x=true
   ·simp only[tokenIn,h1,h2,if_true];rfl
   ·by_cases h3:isMark x=true
    ·simp[tokenIn,h1,h2,h3]at h
    ·simp[tokenIn,h1,h2,h3]at h
theorem xn {c:Bytes}{n k:Nat}{pt:Bool}(h:(tokenIn c).1=.num n k pt):DN c/\n=natural (nA c++nZ c)/\k=(nZ c).length/\pt=nP c/\(tokenIn c).2=nN c:=by
 have e:=tE h;rw[e]at h⊢;rw[K3]at h⊢;by_cases ho:DN c
 ·rw[if_pos ho]at h⊢;cases h;exact⟨ho,rfl,rfl,rfl,rfl⟩
 ·rw[if_neg ho]at h;cases h
theorem nJ {c:Bytes}{n k:Nat}(h:(tokenIn c).1=.num n k false):(c.take (tokenIn c).2).all isDigit=true/\natural (c.take (tokenIn c).2)=n/\(c.take (tokenIn c).2).length<=18:=by
 obtain⟨ho,hn,hk,hp,hl⟩:=xn h;have e1:nN c=(nA c).length:=by simp only[nN,<-hp];simp
 have e2:nZ c=[]:=by simp only[nZ,<-hp];simp
 rw[hl,e1,aB];refine⟨O1 c,?_,?_⟩
 ·rw[hn,e2,List.append_nil]
 ·have:=ho.2.1;unfold DIGITS at this;have t:(nA c).length=(c.takeWhile isDigit).length:=rfl;omega
theorem jL {c:Bytes}{n k:Nat}(h:(tokenIn c).1=.num n k true):∃ a z:Bytes,c.take (tokenIn c).2=a++46::z/\a.all isDigit=true/\z.all isDigit=true/\natural (a++z)=n/\z.length=k/\a.length+z.length<=18:=by
 obtain⟨ho,hn,hk,hp,hl⟩:=xn h;have hp':nP c=true:=hp.symm;have e1:nN c=(nA c).length+(1+(nZ c).length):=by simp only[nN,hp',if_true]
 have e2:nZ c=((nR c).drop 1).takeWhile isDigit:=by simp only[nZ,hp',if_true]
 refine⟨nA c,nZ c,?_,O1 c,by rw[e2];exact O1 _,hn.symm,hk.symm,?_⟩
 ·rw[hl,e1];have hr:∃ r,nR c=46::r:=by
   have q:(nR c).head?=some 46:=eq_of_beq hp';cases z:nR c with
   |nil=>rw[z]at q;cases q
   |cons x r=>rw[z]at q;cases q;exact⟨r,rfl⟩
  obtain⟨r,hr⟩:=hr;have hc:nA c++nR c=c:=by
   have:=List.take_append_drop (nA c).length c;rw[aB]at this;exact this
  have ez:nZ c=r.takeWhile isDigit:=by rw[e2,hr];rfl
  have key:∀ (a z c:Bytes) (r:Bytes),a++46::r=c->z=r.takeWhile isDigit->c.take (a.length+(1+z.length))=a++46::z:=λa z c r h1 h2=>by
   rw[<-h1,List.take_append,List.take_of_length_le (by omega),show a.length+(1+z.length)-a.length=z.length+1 by omega,List.take_succ_cons,h2,aB]
  exact key _ _ _ r (by rw[<-hr];exact hc) ez
 ·have:=ho.2.1;unfold DIGITS at this;exact this
theorem qi {c w:Bytes}(h:(tokenIn c).1=.name w):c.take (tokenIn c).2=w/\WORDS.contains w=false:=by
 cases c with
 |nil=>simp[tokenIn]at h
 |cons x r =>
  by_cases h1:isLetter x=true
  ·simp only[tokenIn,h1,if_true]at h⊢;split at h
   ·cases h
   ·rename_i hn
    rw[if_neg hn];split at h
    ·cases h
    ·rename_i hw
     rw[if_neg hw];cases h;exact⟨aB _,by simpa using hw⟩
  ·by_cases h2:isDigit x=true
   ·simp only[tokenIn,h1,h2,if_true]at h;rw[if_neg (by decide)]at h;rw[K3]at h;split at h<;>cases h
   ·by_cases h3:isMark x=true
    ·simp[tokenIn,h1,h2,h3]at h
    ·simp[tokenIn,h1,h2,h3]at h
noncomputable def pC:Tok->Prop
 |.word w=>w∈WORDS
 |.mark c=>isMark c=true
 |_=>True
theorem Bz (c:Bytes):pC (tokenIn c).1:=by
 cases c with
 |nil=>exact True.intro
 |cons x r =>
  by_cases h1:isLetter x=true
  ·simp only[tokenIn,h1,if_true];split
   ·exact True.intro
   ·split
    ·rename_i hw
     exact List.contains_iff_mem.mp hw
    ·exact True.intro
  ·by_cases h2:isDigit x=true
   ·simp only[tokenIn,h1,h2,if_true];rw[if_neg (by decide),K3];split<;>exact True.intro
   ·by_cases h3:isMark x=true
    ·simp only[tokenIn,h1,h2,h3,if_true];exact h3
    ·simp only[tokenIn,h1,h2,h3];exact True.intro
theorem xq:∀ (l:Bytes) (a:Nat),l.all isDigit=true->l.foldl (λ(n:Nat) (c:UInt8)=>10*n+(c.toNat-48)) a<10^l.length*(a+1)
 |[],a,_=>by simp
 |c::l,a,h=>by
  simp only[List.all_cons,Bool.and_eq_true]at h;rw[List.foldl_cons];have hc:c.toNat<=57:=by
   have:=h.1;unfold isDigit at this;simp only[Bool.and_eq_true,decide_eq_true_eq,UInt8.le_iff_toNat_le]at this;exact this.2
  have:=xq l (10*a+(c.toNat-48)) h.2;refine Nat.lt_of_lt_of_le this ?_;rw[List.length_cons,Nat.pow_succ,Nat.mul_assoc];exact Nat.mul_le_mul_left _ (by omega)
theorem qp {l:Bytes}(h:l.all isDigit=true):natural l<10^l.length:=by
 have:=xq l 0 h;rw[Nat.zero_add,Nat.mul_one]at this;exact this
theorem kx {l:Bytes}(h:l.all isDigit=true)(hl:l.length<=18):natural l<2^60 :=
 Nat.lt_of_lt_of_le (qp h) (Nat.le_trans (Nat.pow_le_pow_right (by decide) hl) (by decide))
theorem pP {n:Nat}(h:n<2^60):Sz 60 (n:Rat):=by
 have:=Sz.div (n:=60) (a:=(n:Int)) (b:=1) h (by decide) (by decide);have e:(((n:Int):Rat)/((1:Int):Rat))=(n:Rat):=by
  rw[show(((1:Int)):Rat)=1 from rfl];have:((n:Int):Rat)=(n:Rat):=rfl
  grind
 rw[e]at this;exact this
theorem vT {n m:Nat}(h:n<2^60)(h':m<2^60)(h0:m≠0):Sz 60 ((n:Rat)/(m:Rat)) :=
 Sz.div (n:=60) (a:=(n:Int)) (b:=(m:Int)) h h' (by omega)
noncomputable def triple (s:System_)(g:Nat):List Rat:=(s.glasses.map λ(x:Glass)=>x.index).getD g []
noncomputable def cI (gl:List Glass):Prop:=∀ g∈gl,g.index.length=3/\∀ q∈g.index,1<=q/\Sz 60 q
theorem iq {s:System_}(h:cI s.glasses)(g:Nat):triple s g=[]\/((triple s g).length=3/\∀ q∈triple s g,1<=q/\Sz 60 q):=by
 unfold triple;rw[List.getD_eq_getElem?_getD];cases e:(s.glasses.map λ(x:Glass)=>x.index)[g]? with
 |none=>exact .inl rfl
 |some l =>
  have m:=List.mem_of_getElem? e;obtain⟨x,hx,rfl⟩:=List.mem_map.mp m;exact .inr (h x hx)
theorem Ed {s:System_}(h:cI s.glasses)(g line:Nat):1<=s.glassIndex g line:=by
 show 1<=(triple s g).getD line 1;rw[List.getD_eq_getElem?_getD];cases e:(triple s g)[line]? with
 |none=>exact Rat.le_refl
 |some q =>
  rcases iq h g with z|z
  ·rw[z]at e;simp at e
  ·exact(z.2 q (List.mem_of_getElem? e)).1
theorem lZ (s:System_)(i:Nat)(hi:i<s.count):s.mirrors (i+1)=s.mirrors i+(if(s.elem i).kind=.mirror then 1 else 0):=by
 unfold System_.mirrors System_.elem;have e:s.elems[i]?=some (s.elems.getD i noElem):=by
  rw[List.getD_eq_getElem?_getD];have:i<s.elems.length:=hi;rw[List.getElem?_eq_getElem this];rfl
 rw[List.take_add_one,e];simp only[Option.toList,List.filter_append,List.length_append];generalize s.elems.getD i noElem=x;by_cases hk:x.kind=.mirror
 ·rw[if_pos hk,List.filter_cons,if_pos (by rw[hk];rfl)];rfl
 ·rw[if_neg hk,List.filter_cons,if_neg (by simpa using hk)];rfl
theorem yQ (s:System_)(i:Nat):s.sign i≠0:=by
 unfold System_.sign;split<;>decide
theorem oV {s:System_}(h:cI s.glasses)(line i:Nat):s.index line i≠0:=by
 unfold System_.index;have h1:=Ed h (s.medium i) line;refine B2 (yQ s i) ?_;intro z;rw[z]at h1;exact absurd h1 (by decide)
theorem rA (s:System_)(i:Nat):s.sign i=1\/s.sign i=-1:=by
 unfold System_.sign;split
 ·exact .inl rfl
 ·exact .inr rfl
theorem qX (s:System_)(line i:Nat)(h:s.glassIndex (s.medium i) line≠0):s.gap i/s.index line i=(s.elem i).gap/s.glassIndex (s.medium i) line:=by
 unfold System_.gap System_.index;rcases rA s i with e|e<;>rw[e]<;>grind
noncomputable def back (s:System_)(i:Nat):Bool:=s.mirrors i%2==1
theorem tN (s:System_)(i:Nat):s.sign i=if back s i=true then -1 else 1:=by
 unfold System_.sign back;have:s.mirrors i%2=0\/s.mirrors i%2=1:=by omega
 rcases this with h|h<;>rw[h]<;>rfl
theorem dQ (s:System_)(line i:Nat):s.index line i=if back s i=true then -s.glassIndex (s.medium i) line else s.glassIndex (s.medium i) line:=by
 unfold System_.index;rw[tN];cases back s i
 ·rw[if_neg (by decide),if_neg (by decide)];grind
 ·rw[if_pos rfl,if_pos rfl];grind
theorem uO (s:System_)(i:Nat)(hi:i<s.count):back s (i+1)=if(s.elem i).kind=.mirror then !back s i else back s i:=by
 unfold back;rw[lZ s i hi];by_cases h:(s.elem i).kind=.mirror
 ·simp only[h,if_true];have:s.mirrors i%2=0\/s.mirrors i%2=1:=by omega
  rcases this with z|z
  ·rw[show(s.mirrors i+1)%2=1 by omega,z];rfl
  ·rw[show(s.mirrors i+1)%2=0 by omega,z];rfl
 ·simp[h]
theorem gy (s:System_)(i:Nat):s.medium (i+1)=match (s.elem i).kind with
  |.surface g=>g
  |_=>s.medium i:=rfl
theorem M4 (s:System_)(line i:Nat)(h:s.glassIndex (s.medium i) line≠0):spreads s line i=(s.glassIndex (s.medium i) 1-s.glassIndex (s.medium i) 2)/s.glassIndex (s.medium i) line:=by
 unfold spreads System_.index;rcases rA s i with e|e<;>rw[e]<;>grind
open Ln (Near Sums)
noncomputable def en:C0:=⟨true,0,0,0,0,0,0,0⟩
theorem nq (n:Nat):Sz (n+1) 0:=⟨by show(0:Nat)<2^(n+1);exact Nat.two_pow_pos _,by show 1<2^(n+1);exact Nat.one_lt_two_pow (by omega)⟩
theorem rh:K5 en:=⟨nq 129,nq 129,nq 129,nq 399,nq 399,nq 399,nq 399⟩
theorem eY (t:C0):∀ (ts:List C0) (r:Near),F4 (ts++[t]) r=F4 ts r++[(Y4 t (bE ts r),R7 t (bE ts r))]
 |[],_=>rfl
 |u::ts,r=>by
  show(Y4 u r,R7 u r)::F4 (ts++[t]) (Q9 u r)=(Y4 u r,R7 u r)::(F4 ts (Q9 u r)++[(Y4 t (bE ts (Q9 u r)),R7 t (bE ts (Q9 u r)))]);rw[eY t ts (Q9 u r)]
theorem tV (ts:List C0):mX (ts++[en])=mX ts:=by
 unfold mX;rw[List.foldr_append];rfl
theorem DO (r:Near):R7 en r=r.v:=by
 unfold R7 en;show r.v+0*_=r.v;rw[Rat.zero_mul,Rat.add_zero]
theorem sh (ts:List C0)(rays:List Rat)(y v:Rat)(hy:y∈rays)(hv:v∈rays):∃ (pre:List (Int×Int)) (h c:Int),A9 (ts++[en]) (F0 y (B6 ts rays)) (F0 v (B6 ts rays))=pre++[(h,c)]/\(c:Rat)=(B6 ts rays:Rat)*(bE ts ⟨y,v⟩).v:=by
 obtain⟨d1,q1⟩:=Z6 ts rays y hy;obtain⟨d2,q2⟩:=Z6 ts rays v hv;rw[<-tV]at d1 d2;have key:=cW (ts++[en]) (B6 ts rays:Rat) _ _ ⟨y,v⟩ d1 d2 q1 q2;rw[eY,List.map_append]at key;generalize A9 (ts++[en]) (F0 y (B6 ts rays)) (F0 v (B6 ts rays))=F at key;have hl:F.length=(F4 ts ⟨y,v⟩).length+1:=by simpa using congrArg List.length key
 obtain⟨pre,p,rfl⟩:∃ pre p,F=pre++[p]:=by
  have:F≠[]:=λz=>by rw[z]at hl;simp at hl
  exact⟨F.dropLast,F.getLast this,(List.dropLast_concat_getLast this).symm⟩
 rw[List.map_append]at key;have hl2:(pre.map λp:Int×Int=>((p.1:Rat),(p.2:Rat))).length=((F4 ts ⟨y,v⟩).map λp=>((B6 ts rays:Rat)*p.1,(B6 ts rays:Rat)*p.2)).length:=by
  rw[List.length_map,List.length_map];simpa using hl
 have key2:=(List.append_inj key hl2).2;simp only[List.map_cons,List.map_nil,List.cons.injEq,Prod.mk.injEq,and_true]at key2;exact⟨pre,p.1,p.2,rfl,by rw[key2.2,DO]⟩
noncomputable def ae (ts:List C0)(y v:Rat)(N:Int):Int:=((A9 (ts++[en]) (F0 y N) (F0 v N)).getLast?.getD (0,0)).2
theorem xG (ts:List C0)(rays:List Rat)(y v:Rat)(hy:y∈rays)(hv:v∈rays):(ae ts y v (B6 ts rays):Rat)=(B6 ts rays:Rat)*(bE ts ⟨y,v⟩).v:=by
 obtain⟨pre,h,c,e,q⟩:=sh ts rays y v hy hv;unfold ae;rw[e,List.getLast?_append];exact q
noncomputable def N8 (s:List Int)(a b h:Int):Int:=s.getD 0 0*(a*a+b*b)*a+2*s.getD 1 0*a*b*h+(s.getD 2 0+s.getD 3 0)*a*h*h
noncomputable def V0 (s:List Int)(a b h:Int):Int:=s.getD 0 0*(a*a+b*b)*b+s.getD 1 0*(a*a+3*b*b)*h+(3*s.getD 2 0+s.getD 3 0)*b*h*h+s.getD 4 0*h*h*h
noncomputable def DK (prs:List (Int×Int))(N c S a b h:Int):List (Int×Int) :=
 [(N8 (prs.map Prod.fst) a b h*N,(prs.getD 0 (0,1)).2*(S*S*S)*2*c),(V0 (prs.map Prod.fst) a b h*N,(prs.getD 0 (0,1)).2*(S*S*S)*2*c)]
theorem jD {bt S N V O:Rat}(hb:bt≠0)(hS:S≠0)(hN:N≠0)(hV:V≠0):bt*(S*S*S)*O*N/(bt*(S*S*S)*2*(N*V))=O/(2*V):=by
 have h2:(2:Rat)≠0:=by decide
 have hk:bt*(S*S*S)*N≠0:=B2 (B2 hb (B2 (B2 hS hS) hS)) hN;have h3:bt*(S*S*S)*2*(N*V)≠0:=B2 (B2 (B2 hb (B2 (B2 hS hS) hS)) h2) (B2 hN hV);have h4:2*V≠0:=B2 h2 hV
 grind
theorem je {t bt:Int}{s:Rat}(hb:(bt:Rat)≠0)(h:(t:Rat)/(bt:Rat)=s):(t:Rat)=(bt:Rat)*s:=by
 rw[<-h];grind
theorem DJ {tot:List Int}{N cm c S a b h:Int}{x:Sums}{p q k V:Rat}(hN:(N:Rat)≠0)(hcm:(cm:Rat)≠0)(hS:(S:Rat)≠0)(hV:V≠0)(hx:w9 (tot.zip (R8 N cm))=S7 x)(hc:(c:Rat)=(N:Rat)*V)
  (ha:(a:Rat)=(S:Rat)*p) (hb:(b:Rat)=(S:Rat)*q) (hh:(h:Rat)=(S:Rat)*k):w9 (DK (tot.zip (R8 N cm)) N c S a b h)=[Ln.offX x p q k/(2*V),Ln.offY x p q k/(2*V)]:=by
 obtain⟨t1,t2,t3,t4,t5,t6,t7,r,rfl⟩:∃ t1 t2 t3 t4 t5 t6 t7 r,tot=t1::t2::t3::t4::t5::t6::t7::r:=by
  have hl:7<=tot.length:=by
   have:=congrArg List.length hx;rw[w9,List.length_map,List.length_zip]at this;have e7:(R8 N cm).length=7:=rfl;have e8:(S7 x).length=7:=rfl;omega
  rcases tot with _|⟨t1,_|⟨t2,_|⟨t3,_|⟨t4,_|⟨t5,_|⟨t6,_|⟨t7,r⟩⟩⟩⟩⟩⟩⟩
  all_goals first
   |exact⟨_,_,_,_,_,_,_,_,rfl⟩
   | (simp only[List.length_cons,List.length_nil]at hl;omega)
 ·have hbt:((N*N*(N*N)*cm:Int):Rat)≠0:=by
   simp only[Rat.intCast_mul];exact B2 (B2 (B2 hN hN) (B2 hN hN)) hcm
  have hz:(t1::t2::t3::t4::t5::t6::t7::r).zip (R8 N cm)=[(t1,N*N*(N*N)*cm),(t2,N*N*(N*N)*cm),(t3,N*N*(N*N)*cm),(t4,N*N*(N*N)*cm),(t5,N*N*(N*N)*cm),(t6,N*N*cm),(t7,N*N*cm)]:=by
   simp only[R8,List.zip_cons_cons,List.zip_nil_right]
  rw[hz]at hx⊢;have hx':[(t1:Rat)/((N*N*(N*N)*cm:Int):Rat),(t2:Rat)/((N*N*(N*N)*cm:Int):Rat),(t3:Rat)/((N*N*(N*N)*cm:Int):Rat),(t4:Rat)/((N*N*(N*N)*cm:Int):Rat),(t5:Rat)/((N*N*(N*N)*cm:Int):Rat),(t6:Rat)/((N*N*cm:Int):Rat),(t7:Rat)/((N*N*cm:Int):Rat)]=[x.s1,x.s2,x.s3,x.s4,x.s5,x.c1,x.c2]:=hx;simp only[List.cons.injEq,and_true]at hx';obtain⟨h1,h2,h3,h4,h5,_,_⟩:=hx';have e1:=je hbt h1;have e2:=je hbt h2;have e3:=je hbt h3;have e4:=je hbt h4;have e5:=je hbt h5;show[((N8 [t1,t2,t3,t4,t5,t6,t7] a b h*N:Int):Rat)/((N*N*(N*N)*cm*(S*S*S)*2*c:Int):Rat),((V0 [t1,t2,t3,t4,t5,t6,t7] a b h*N:Int):Rat)/((N*N*(N*N)*cm*(S*S*S)*2*c:Int):Rat)]=_;have eA:N8 [t1,t2,t3,t4,t5,t6,t7] a b h=t1*(a*a+b*b)*a+2*t2*a*b*h+(t3+t4)*a*h*h:=rfl;have eL:V0 [t1,t2,t3,t4,t5,t6,t7] a b h=t1*(a*a+b*b)*b+t2*(a*a+3*b*b)*h+(3*t3+t4)*b*h*h+t5*h*h*h:=rfl;generalize hB:N*N*(N*N)*cm=Bt at *;rw[<-jD (O:=Ln.offX x p q k) hbt hS hN hV,<-jD (O:=Ln.offY x p q k) hbt hS hN hV,eA,eL];congr 1
  ·congr 1
   ·simp only[Rat.intCast_add,Rat.intCast_mul,e1,e2,e3,e4,ha,hb,hh,Ln.offX];show _=(Bt:Rat)*((S:Rat)*S*S)*_*(N:Rat);have:((2:Int):Rat)=2:=rfl;rw[this];generalize(Bt:Rat)=B at *;generalize(S:Rat)=Z at *;generalize(N:Rat)=M at *
    grind
   ·simp only[Rat.intCast_mul,hc];rfl
  ·congr 1
   congr 1
   ·simp only[Rat.intCast_add,Rat.intCast_mul,e1,e2,e3,e4,e5,ha,hb,hh,Ln.offY];have:((3:Int):Rat)=3:=rfl;rw[this];generalize(Bt:Rat)=B at *;generalize(S:Rat)=Z at *;generalize(N:Rat)=M at *
    grind
   ·simp only[Rat.intCast_mul,hc];rfl
end Ma
namespace L2
theorem l9 {P:A->Prop}(a)(h:P a):∃ a,P a:=⟨a,h⟩
theorem a0 {P Q:A->Prop}(a)(h:P a)(i:Q a):∃ a,P a/\Q a:=⟨a,h,i⟩
theorem g9 {P Q R:A->Prop}(a)(h:P a)(i:Q a)(j:R a):∃ a,P a/\Q a/\R a:=⟨a,h,i,j⟩
theorem M9 {P Q R S:A->Prop}(a)(h:P a)(i:Q a)(j:R a)(k:S a):∃ a,P a/\Q a/\R a/\S a:=⟨a,h,i,j,k⟩
theorem P9 {P:A->B->Prop}(a b)(h:P a b):∃ a b,P a b:=⟨a,b,h⟩
theorem J0 {P Q:A->B->Prop}(a b)(h:P a b)(i:Q a b):∃ a b,P a b/\Q a b:=⟨a,b,h,i⟩
theorem h9 {P Q R:A->B->Prop}(a b)(h:P a b)(i:Q a b)(j:R a b):∃ a b,P a b/\Q a b/\R a b:=⟨a,b,h,i,j⟩
theorem i3 {P Q R S:A->B->Prop}(a b)(h:P a b)(i:Q a b)(j:R a b)(k:S a b):∃ a b,P a b/\Q a b/\R a b/\S a b:=⟨a,b,h,i,j,k⟩
theorem J5 {P Q R S T:A->B->Prop}(a b)(h:P a b)(i:Q a b)(j:R a b)(k:S a b)(l:T a b):∃ a b,P a b/\Q a b/\R a b/\S a b/\T a b:=⟨a,b,h,i,j,k,l⟩
theorem I0 {P:A->B->C->Prop}(a b c)(h:P a b c):∃ a b c,P a b c:=⟨a,b,c,h⟩
theorem bP {P Q R:A->B->C->Prop}(a b c)(h:P a b c)(i:Q a b c)(j:R a b c):∃ a b c,P a b c/\Q a b c/\R a b c:=⟨a,b,c,h,i,j⟩
theorem m8 {P Q R S:A->B->C->Prop}(a b c)(h:P a b c)(i:Q a b c)(j:R a b c)(k:S a b c):∃ a b c,P a b c/\Q a b c/\R a b c/\S a b c:=⟨a,b,c,h,i,j,k⟩
theorem z8 {P Q R S T:A->B->C->Prop}(a b c)(h:P a b c)(i:Q a b c)(j:R a b c)(k:S a b c)(l:T a b c):∃ a b c,P a b c/\Q a b c/\R a b c/\S a b c/\T a b c:=⟨a,b,c,h,i,j,k,l⟩
theorem O0 {P:A->B->C->D->Prop}(a b c d)(h:P a b c d):∃ a b c d,P a b c d:=⟨a,b,c,d,h⟩
theorem q0 {P Q R S:A->B->C->D->Prop}(a b c d)(h:P a b c d)(i:Q a b c d)(j:R a b c d)(k:S a b c d):∃ a b c d,P a b c d/\Q a b c d/\R a b c d/\S a b c d:=⟨a,b,c,d,h,i,j,k⟩
theorem j5 {P Q R S T:A->B->C->D->Prop}(a b c d)(h:P a b c d)(i:Q a b c d)(j:R a b c d)(k:S a b c d)(l:T a b c d):∃ a b c d,P a b c d/\Q a b c d/\R a b c d/\S a b c d/\T a b c d:=⟨a,b,c,d,h,i,j,k,l⟩
theorem l8 {P Q R S T U:A->B->C->D->Prop}(a b c d)(h:P a b c d)(i:Q a b c d)(j:R a b c d)(k:S a b c d)(l:T a b c d)(m:U a b c d):∃ a b c d,P a b c d/\Q a b c d/\R a b c d/\S a b c d/\T a b c d/\U a b c d:=⟨a,b,c,d,h,i,j,k,l,m⟩
theorem p9 {P:A->B->C->D->E->Prop}(a b c d e)(h:P a b c d e):∃ a b c d e,P a b c d e:=⟨a,b,c,d,e,h⟩
theorem bO {P Q R S:A->B->C->D->E->Prop}(a b c d e)(h:P a b c d e)(i:Q a b c d e)(j:R a b c d e)(k:S a b c d e):∃ a b c d e,P a b c d e/\Q a b c d e/\R a b c d e/\S a b c d e:=⟨a,b,c,d,e,h,i,j,k⟩
theorem C1 {P Q R S T:A->B->C->D->E->Prop}(a b c d e)(h:P a b c d e)(i:Q a b c d e)(j:R a b c d e)(k:S a b c d e)(l:T a b c d e):∃ a b c d e,P a b c d e/\Q a b c d e/\R a b c d e/\S a b c d e/\T a b c d e:=⟨a,b,c,d,e,h,i,j,k,l⟩
theorem l4 {P Q R S T U:A->B->C->D->E->Prop}(a b c d e)(h:P a b c d e)(i:Q a b c d e)(j:R a b c d e)(k:S a b c d e)(l:T a b c d e)(m:U a b c d e):∃ a b c d e,P a b c d e/\Q a b c d e/\R a b c d e/\S a b c d e/\T a b c d e/\U a b c d e:=⟨a,b,c,d,e,h,i,j,k,l,m⟩
theorem M0 {P Q R S T U W:A->B->C->D->E->Prop}(a b c d e)(h:P a b c d e)(i:Q a b c d e)(j:R a b c d e)(k:S a b c d e)(l:T a b c d e)(m:U a b c d e)(n:W a b c d e):∃ a b c d e,P a b c d e/\Q a b c d e/\R a b c d e/\S a b c d e/\T a b c d e/\U a b c d e/\W a b c d e:=⟨a,b,c,d,e,h,i,j,k,l,m,n⟩
theorem L9 {P Q R S T U:A->B->C->D->E->F->Prop}(a b c d e f)(h:P a b c d e f)(i:Q a b c d e f)(j:R a b c d e f)(k:S a b c d e f)(l:T a b c d e f)(m:U a b c d e f):∃ a b c d e f,P a b c d e f/\Q a b c d e f/\R a b c d e f/\S a b c d e f/\T a b c d e f/\U a b c d e f:=⟨a,b,c,d,e,f,h,i,j,k,l,m⟩
theorem bM {P Q R S T U:A->B->C->D->E->F->G->Prop}(a b c d e f g)(h:P a b c d e f g)(i:Q a b c d e f g)(j:R a b c d e f g)(k:S a b c d e f g)(l:T a b c d e f g)(m:U a b c d e f g):∃ a b c d e f g,P a b c d e f g/\Q a b c d e f g/\R a b c d e f g/\S a b c d e f g/\T a b c d e f g/\U a b c d e f g:=⟨a,b,c,d,e,f,g,h,i,j,k,l,m⟩
open PySem PySem.Spec PyProof.Rows
abbrev M8:=Sum Int Str
def kE:M8->Value->Bool
 |.inl k,v=>Value.isInt k v
 |.inr x,v=>Value.isStrOf x v
def GE (w:World):M8->Int
 |.inl k=>hashInt k
 |.inr x=>hashStr w x
theorem D6:∀ {k:M8}{v:Value},kE k v=true->(∃ i t,k=Sum.inl i/\v=Value.int i t)\/(∃ x t,k=Sum.inr x/\v=Value.str x t)
 |.inl i,v,h=>by
  obtain⟨t,e⟩:=Value.isInt_shape (k:=i) (v:=v) h;exact .inl ⟨i,t,rfl,e⟩
 |.inr x,v,h=>by
  obtain⟨t,e⟩:=Value.isStrOf_shape (x:=x) (v:=v) h;exact .inr ⟨x,t,rfl,e⟩
theorem uA (i:Int)(t:Tok):kE (.inl i) (.int i t)=true:=by simp[kE,Value.isInt]
theorem uz (x:Str)(t:Tok):kE (.inr x) (.str x t)=true:=by simp[kE,Value.isStrOf]
theorem DX (a b:Int):decide ((Sum.inl a:M8)=Sum.inl b)=(a==b):=by
 by_cases e:a=b
 ·subst e;simp
 ·have h:¬ (Sum.inl a:M8)=Sum.inl b:=λq=>e (Sum.inl.inj q);rw[decide_eq_false h];exact(beq_eq_false_iff_ne.mpr e).symm
theorem DU (a b:Str):decide ((Sum.inr a:M8)=Sum.inr b)=decide (a=b):=by
 by_cases e:a=b
 ·subst e;simp
 ·have h:¬ (Sum.inr a:M8)=Sum.inr b:=λq=>e (Sum.inr.inj q);rw[decide_eq_false h,decide_eq_false e]
theorem DW (a:Int)(b:Str):decide ((Sum.inl a:M8)=Sum.inr b)=false:=decide_eq_false (λq=>nomatch q)
theorem DV (a:Str)(b:Int):decide ((Sum.inr a:M8)=Sum.inl b)=false:=decide_eq_false (λq=>nomatch q)
def L3 (prog:Program)(w:World):PySem.KeyKind prog w M8 where
 is:=kE
 hash:=GE w
 inj:=λv a b ha hb=>by
  rcases D6 ha with⟨i,t,rfl,rfl⟩|⟨x,t,rfl,rfl⟩
  ·rcases D6 hb with⟨j,u,rfl,e⟩|⟨y,u,rfl,e⟩
   ·injection e with e1 _;rw[e1]
   ·exact nomatch e
  ·rcases D6 hb with⟨j,u,rfl,e⟩|⟨y,u,rfl,e⟩
   ·exact nomatch e
   ·injection e with e1 _;rw[e1]
 byValue:=λk v h=>by
  rcases D6 h with⟨i,t,rfl,rfl⟩|⟨x,t,rfl,rfl⟩<;>rfl
 pyHash:=λhv h=>by
  rcases D6 hv with⟨i,t,rfl,rfl⟩|⟨x,t,rfl,rfl⟩
  ·exact wpAny_pyHash_int h
  ·exact wpAny_pyHash_str h
 eqBool:=λhu hv h=>by
  rcases D6 hu with⟨i,t,rfl,rfl⟩|⟨x,t,rfl,rfl⟩
  ·rcases D6 hv with⟨j,u,rfl,rfl⟩|⟨y,u,rfl,rfl⟩
   ·rw[DX]at h;exact wpAny_eqBool_int h
   ·rw[DW]at h;exact SeqAt.EqAt.int_str i t y u _ _ _ _ h
  ·rcases D6 hv with⟨j,u,rfl,rfl⟩|⟨y,u,rfl,rfl⟩
   ·rw[DV]at h;exact SeqAt.EqAt.str_int x t j u _ _ _ _ h
   ·rw[DU]at h;exact wpAny_eqBool_str h
 «strs»:=λk x t v h=>by
  rcases D6 h with⟨i,u,rfl,e⟩|⟨y,u,rfl,e⟩
  ·exact nomatch e
  ·injection e with e1 _;subst e1;cases v<;>rfl
theorem oj (prog:Program)(w:World)(i:Int)(t:Tok):(L3 prog w).is (.inl i) (.int i t)=true:=uA i t
theorem oh (prog:Program)(w:World)(x:Str)(t:Tok):(L3 prog w).is (.inr x) (.str x t)=true:=uz x t
inductive V where
 |non|bl (b:Bool)|int (i:Int)|str (x:Str)|byt (b:Array UInt8)|flt (b:UInt64)|ref (a:Addr)|ty (n:String)
 deriving DecidableEq
def A0:V->Value->Prop
 |.non,u=>u=Value.none
 |.bl b,u=>u=Value.bool b
 |.int i,u=>∃ t,u=Value.int i t
 |.str x,u=>∃ t,u=Value.str x t
 |.byt b,u=>∃ t,u=Value.bytes b t
 |.flt b,u=>∃ t,u=Value.float b t
 |.ref a,u=>u=Value.ref a
 |.ty n,u=>u=Value.type n
abbrev x9:List V->List Value->Prop:=Paired A0
theorem x9.length {xs:List V}{us:List Value}(r:x9 xs us):xs.length=us.length:=Paired.length r
theorem x9.get:∀ {xs:List V}{us:List Value}{i:Nat}{x:V},x9 xs us->xs[i]?=some x->∃ u,us[i]?=some u/\A0 x u
 |_,_,_,_,.nil,e=>by simp at e
 |_,_,0,_,.cons r _,e=>by simp at e;subst e;exact⟨_,rfl,r⟩
 |_,_,i+1,x,.cons _ t,e=>by
  obtain⟨u,h1,h2⟩:=x9.get (i:=i) (x:=x) t (by simpa using e);exact⟨u,by simpa using h1,h2⟩
theorem x9.append:∀ {xs ys:List V}{us ws:List Value},x9 xs us->x9 ys ws->x9 (xs++ys) (us++ws)
 |_,_,_,_,.nil,s=>s
 |_,_,_,_,.cons r t,s=>.cons r (x9.append t s)
theorem x9.take:∀ {xs:List V}{us:List Value} (n:Nat),x9 xs us->x9 (xs.take n) (us.take n)
 |_,_,0,_=>.nil
 |_,_,_+1,.nil=>.nil
 |_,_,n+1,.cons r t=>.cons r (x9.take n t)
theorem x9.drop:∀ {xs:List V}{us:List Value} (n:Nat),x9 xs us->x9 (xs.drop n) (us.drop n)
 |_,_,0,r=>r
 |_,_,_+1,.nil=>.nil
 |_,_,n+1,.cons _ t=>x9.drop n t
def ax:Option V->Option Value->Prop
 |some v,some u=>A0 v u
 |none,none=>True
 |_,_=>False
def KV {κ:Type}:List (κ×V)->List (κ×Value)->Prop:=Paired λ(p:κ×V) (q:κ×Value)=>p.1=q.1/\A0 p.2 q.2
def kV:M8->V
 |.inl i=>.int i
 |.inr x=>.str x
inductive HO where
 /-- a list -/
 |lst (xs:List V)
 /-- a tuple (never changes) -/
 |tup (xs:List V)
 /-- a dict whose keys are ints and texts;one whose keys are tuples of ints and texts (the empty one is both) -/
 |dK (kvs:List (M8×V))|dT (kvs:List (List M8×V))
 /-- a set of ints: its members,its size -/
 |set (S:Int->Bool) (n:Nat)
 /-- an instance of the class at C,its dict at dx,its attributes -/
 |ins (C dx:Addr) (fs:List (Str×V))
 /-- the dict of the instance at x -/
 |own (x:Addr)
 /-- the dict of an exception -/
 |xd (fs:List (Str×V))
 /-- a bound method,f of x -/
 |met (f x:Addr)
 /-- a range object lo,lo+1,.. below hi -/
 |rng (lo hi:Int)
 /-- a thing that is known to the object (the script;a dict while a loop walks it): read,never written while it is so -/
 |frz (o:Obj) (u:HO)
 /-- a code object's table -/
 |tbl (ps:Array Value)
 /-- any other thing,by what is true of its one object (a def of one's own: SetO a S n:=HO.ext λh=>..) -/
 |ext (φ:Heap->Prop)
abbrev Hp:=Addr->Option HO
def i8 (H:Hp)(a:Addr)(o:HO):Hp:=λb=>if b=a then some o else H b
theorem c9 {H:Hp}{a:Addr}{o:HO}:i8 H a o a=some o:=by unfold i8;rw[if_pos rfl]
theorem i0 {H:Hp}{a b:Addr}{o:HO}(h:b≠a):i8 H a o b=H b:=by unfold i8;rw[if_neg h]
theorem A8 {H:Hp}{a:Addr}{o u:HO}:i8 (i8 H a o) a u=i8 H a u:=by
 funext b;unfold i8;split<;>rfl
theorem Be {H:Hp}{a b:Addr}{o u:HO}(h:H a=some o)(h':H b=some u)(d:o≠u):a≠b:=by
 intro e;subst e;rw[h]at h';exact d (Option.some.inj h')
theorem j3 {H:Hp}{a b:Addr}{o:HO}(h:H a=some o)(h':H b=none):a≠b:=by
 intro e;subst e;rw[h]at h';cases h'
section
variable (P:Program)(w:World)
def y3 (H:Hp)(h:Heap)(a:Addr):HO->Prop
 |.lst xs=>xs.length<=sizeLine/\∃ (its:List Value) (n:Nat),x9 xs its/\h.get? a=some { cls:=.type "list",data:=.seq its.toArray n }
 |.tup xs=>xs.length<=sizeLine/\∃ its:List Value,x9 xs its/\IsTup h a its.toArray
 |.dK kvs=>kvs.length<=sizeLine/\(a==sysModules)=false/\∃ vs,KV kvs vs/\h.DictOf (L3 P w) a vs
 |.dT kvs=>kvs.length<=sizeLine/\(a==sysModules)=false/\∃ xs:List (List M8×Addr×Value),
   Paired (λ(p:List M8×V) (q:List M8×Addr×Value)=>p.1=q.1/\H q.2.1=some (.tup (p.1.map kV))/\A0 p.2 q.2.2) kvs xs /\
   ∃ o es ep,h.get? a=some o/\o.ExactDict/\o.data=.dict es ep/\es.toList=xs.map (entryOfKey (tupleKind (L3 P w)))/\(xs.map (·.1)).Nodup
 |.set S n=>h.SetOf (intKind P w) a S n
 |.ins C dx fs=>H dx=some (.own a)/\fs.length<=1000/\dx≠a/\h.get? a=some (W.instObj C dx) /\
   ∃ mA,h.Ns1 dx mA/\(∀ f,ax (fs.lookup f) (mA f))/\PySem.Within mA (fs.map (·.1))
 |.own _=>∃ o,h.get? a=some o
 |.xd fs=>∃ mA,h.Ns1 a mA/\∀ f,ax (fs.lookup f) (mA f)
 |.rng lo hi=>∃ t u v,h.get? a=some { cls:=.type "range",data:=.fields #[.int lo t,.int hi u,.int 1 v] }
 |.frz o u=>h.get? a=some o/\y3 H h a u
 |.tbl ps=>h.get? a=some { cls:=.none,data:=.fields ps }
 |.met f x=>h.get? a=some (W.methodObj (.ref f) (.ref x))
 |.ext φ=>φ h/\(∃ o,h.get? a=some o)/\∀ h1 h2:Heap,φ h1->(∀ o,h1.get? a=some o->h2.get? a=some o)->φ h2
def ay (H:Hp)(h:Heap):Prop:=∀ a o,H a=some o->y3 P w H h a o
end
section
variable {P:Program}{w:World}{H H':Hp}{h h':Heap}{a:Addr}{o:HO}
theorem y3.lt (x:y3 P w H h a o):a<h.objs.size:=by
 cases o with
 |lst xs=>obtain⟨_,_,_,_,e⟩:=x;exact Heap.lt_size e
 |tup xs=>obtain⟨_,_,_,p⟩:=x;exact p.lt
 |dK kvs=>obtain⟨_,_,_,_,o,_,_,e,_⟩:=x;exact Heap.lt_size e
 |dT kvs=>obtain⟨_,_,_,_,o,_,_,e,_⟩:=x;exact Heap.lt_size e
 |set S n=>obtain⟨o,_,_,_,e,_⟩:=x;exact Heap.lt_size e
 |ins C dx fs=>obtain⟨_,_,_,e,_⟩:=x;exact Heap.lt_size e
 |own y=>obtain⟨_,e⟩:=x;exact Heap.lt_size e
 |xd fs=>obtain⟨_,⟨_,_,_,e,_⟩,_⟩:=x;exact Heap.lt_size e
 |rng lo hi=>obtain⟨_,_,_,e⟩:=x;exact Heap.lt_size e
 |frz ob u=>obtain⟨e,_⟩:=x;exact Heap.lt_size e
 |tbl ps=>exact Heap.lt_size (show h.get? a=some _ from x)
 |met f y=>exact Heap.lt_size (show h.get? a=some _ from x)
 |ext φ=>obtain⟨_,⟨_,e⟩,_⟩:=x;exact Heap.lt_size e
theorem Paired.mapP {α β:Type}{F G:α->β->Prop}:∀ {l₁:List α}{l₂:List β},Paired F l₁ l₂->(∀ a b,F a b->G a b)->Paired G l₁ l₂
 |_,_,.nil,_=>.nil
 |_,_,.cons r t,f=>.cons (f _ _ r) (Paired.mapP t f)
theorem y3.stay (x:y3 P w H h a o)(k:∀ b u,(b=a\/H b=some (.own a))->h.get? b=some u->h'.get? b=some u)
  (ho:∀ b,H b=some (.own a)->H' b=some (.own a)) (ht:∀ b xs,H b=some (.tup xs)->H' b=some (.tup xs)):y3 P w H' h' a o:=by
 induction o with
 |lst xs=>obtain⟨z,its,n,r,e⟩:=x;exact⟨z,its,n,r,k _ _ (.inl rfl) e⟩
 |tup xs=>obtain⟨z,its,r,ob,e,c⟩:=x;exact⟨z,its,r,ob,k _ _ (.inl rfl) e,c⟩
 |dK kvs=>obtain⟨z,y,vs,r,ob,es,ep,e,c⟩:=x;exact⟨z,y,vs,r,ob,es,ep,k _ _ (.inl rfl) e,c⟩
 |dT kvs =>
  obtain⟨z,y,xs,r,ob,es,ep,e,c⟩:=x;exact⟨z,y,xs,Paired.mapP r λp q z=>⟨z.1,ht _ _ z.2.1,z.2.2⟩,ob,es,ep,k _ _ (.inl rfl) e,c⟩
 |set S n=>obtain⟨ob,es,ep,t,e,c⟩:=x;exact⟨ob,es,ep,t,k _ _ (.inl rfl) e,c⟩
 |ins C dx fs =>
  obtain⟨d,z,ne,e,mA,⟨od,es,ep,e2,c⟩,r⟩:=x;exact⟨ho _ d,z,ne,k _ _ (.inl rfl) e,mA,⟨od,es,ep,k _ _ (.inr d) e2,c⟩,r⟩
 |own y=>obtain⟨ob,e⟩:=x;exact⟨ob,k _ _ (.inl rfl) e⟩
 |xd fs=>obtain⟨mA,⟨od,es,ep,e,c⟩,r⟩:=x;exact⟨mA,⟨od,es,ep,k _ _ (.inl rfl) e,c⟩,r⟩
 |rng lo hi=>obtain⟨t,u,v,e⟩:=x;exact⟨t,u,v,k _ _ (.inl rfl) e⟩
 |frz ob u ih=>obtain⟨e,q⟩:=x;exact⟨k _ _ (.inl rfl) e,ih q⟩
 |tbl ps =>
  have e:h.get? a=some { cls:=.none,data:=.fields ps }:=x;show h'.get? a=some { cls:=.none,data:=.fields ps };exact k a _ (.inl rfl) e
 |met f y =>
  have e:h.get? a=some (W.methodObj (.ref f) (.ref y)):=x;show h'.get? a=some (W.methodObj (.ref f) (.ref y));exact k a _ (.inl rfl) e
 |ext φ=>obtain⟨p,⟨o,e⟩,st⟩:=x;exact⟨st _ _ p λo q=>k _ _ (.inl rfl) q,⟨o,k _ _ (.inl rfl) e⟩,st⟩
theorem ay.lt (x:ay P w H h)(e:H a=some o):a<h.objs.size:=(x a o e).lt
theorem ay.fresh (x:ay P w H h)(e:h.objs.size<=a):H a=none:=by
 cases q:H a with
 |none=>rfl
 |some u=>exact absurd (Nat.lt_of_lt_of_le (x.lt q) e) (Nat.lt_irrefl _)
theorem ay.kept (x:ay P w H h)(k:∀ b u,h.get? b=some u->h'.get? b=some u):ay P w H h':=λa o e =>
 (x a o e).stay (λb u _ q=>k b u q) (λ_ q=>q) λ_ _ q=>q
theorem ay.laid (x:ay P w H h)(k:∀ b u,h.get? b=some u->h'.get? b=some u)(hp:h.objs.size<=a)(new:y3 P w (i8 H a o) h' a o):ay P w (i8 H a o) h':=λb u e=>by
 have hn:=x.fresh hp;by_cases hb:b=a
 ·subst hb;rw[c9]at e;cases e;exact new
 ·rw[i0 hb]at e;exact(x b u e).stay (λc v _ q=>k c v q) (λc q=>by rw[i0 (j3 q hn)];exact q) λc xs q=>by rw[i0 (j3 q hn)];exact q
end
def Rd (H:Hp)(a:Addr)(u:HO):Prop:=H a=some u\/∃ o,H a=some (.frz o u)
theorem Rd.ok {P:Program}{w:World}{H:Hp}{h:Heap}{a:Addr}{u:HO}(r:Rd H a u)(x:ay P w H h):y3 P w H h a u:=by
 rcases r with r|⟨o,r⟩
 ·exact x a u r
 ·obtain⟨_,q⟩:=x a _ r;exact q
def FZ:Option HO->Prop
 |some (.lst _)=>True
 |some (.dK _)=>True
 |some (.dT _)=>True
 |some (.set _ _)=>True
 |some (.ins _ _ _)=>True
 |some (.ext _)=>True
 |_=>False
section
variable {P:Program}{w:World}{H:Hp}{h h':Heap}{x e:Addr}{o':HO}
theorem ay.write (ok:ay P w H h)(mu:FZ (H x))(he:e=x\/H e=some (.own x))(k:∀ b u,b≠e->h.get? b=some u->h'.get? b=some u)(heo:∃ u,h'.get? e=some u)
  (new:y3 P w (i8 H x o') h' x o'):ay P w (i8 H x o') h':=λb u q=>by
 have nown:∀ c y,H c=some (.own y)->c≠x:=λc y r z=>by subst z;rw[r]at mu;exact mu
 have ntup:∀ c xs,H c=some (.tup xs)->c≠x:=λc xs r z=>by subst z;rw[r]at mu;exact mu
 by_cases hb:b=x
 ·subst hb;rw[c9]at q;cases q;exact new
 ·rw[i0 hb]at q;by_cases hbe:b=e
  ·have q':H b=some (.own x):=by
    rcases he with z|z
    ·exact absurd (hbe.trans z) hb
    ·rw[hbe];exact z
   rw[q]at q';cases q';obtain⟨v,hv⟩:=heo;exact⟨v,by rw[hbe];exact hv⟩
  ·refine(ok b u q).stay (λc v hc r=>k c v ?_ r) (λc r=>by rw[i0 (nown c b r)];exact r) λc xs r=>by rw[i0 (ntup c xs r)];exact r
   rcases hc with rfl|hc
   ·exact hbe
   ·rintro rfl;rcases he with z|z
    ·exact nown c b hc z
    ·rw[hc]at z;cases z;exact hb rfl
end
structure Un (fs ex:List Addr)(H H':Hp)(h h':Heap):Prop where
 keep:∀ b o,h.get? b=some o->H b=none->b∉fs->b∉ex->h'.get? b=some o
 slot:∀ b o,h.get? b=some o->H b=none->b∈fs->b∉ex->∃ sl,h'.get? b=some { o with slots:=sl }
 free:∀ b o,h.get? b=some o->H b=none->b∉ex->H' b=none
 there:∀ b o,h.get? b=some o->b∉ex->∃ o',h'.get? b=some o'
 tups:∀ b xs,H b=some (.tup xs)->H' b=some (.tup xs)
 frzs:∀ b o u,H b=some (.frz o u)->H' b=some (.frz o u)
 tbls:∀ b ps,H b=some (.tbl ps)->∃ more,H' b=some (.tbl (ps++more))
section
variable {fs fs' ex ex':List Addr}{H H1 H2:Hp}{h h1 h2 h':Heap}{a x e:Addr}{o:HO}
theorem Un.any (u:Un fs ex H H1 h h1){b:Addr}{ob:Obj}(q:h.get? b=some ob)(n:H b=none)(hx:b∉ex):∃ sl,h1.get? b=some { ob with slots:=sl }:=by
 by_cases hb:b∈fs
 ·exact u.slot b ob q n hb hx
 ·exact⟨ob.slots,u.keep b ob q n hb hx⟩
theorem Un.kept (k:∀ b u,h.get? b=some u->h'.get? b=some u):Un fs ex H H h h' :=
 ⟨λb ob q _ _ _=>k b ob q,λb ob q _ _ _=>⟨ob.slots,k b ob q⟩,λ_ _ _ n _=>n,λb ob q _=>⟨ob,k b ob q⟩,λ_ _ q=>q,λ_ _ _ q=>q,λ_ ps q=>⟨#[],by rw[q];simp⟩⟩
theorem Un.refl:Un fs ex H H h h:=Un.kept λ_ _ q=>q
theorem Un.laid (k:∀ b u,h.get? b=some u->h'.get? b=some u)(hp:h.objs.size<=a)(hn:H a=none):Un fs ex H (i8 H a o) h h' where
 keep:=λb u q _ _ _=>k b u q
 slot:=λb u q _ _ _=>⟨u.slots,k b u q⟩
 free:=λb u q n _=>by rw[i0 (Nat.ne_of_lt (Nat.lt_of_lt_of_le (Heap.lt_size q) hp))];exact n
 there:=λb u q _=>⟨u,k b u q⟩
 tups:=λb xs q=>by rw[i0 (j3 q hn)];exact q
 frzs:=λb u xs q=>by rw[i0 (j3 q hn)];exact q
 tbls:=λb ps q=>⟨#[],by rw[i0 (j3 q hn),q];simp⟩
theorem Un.write (mu:FZ (H x))(he:e=x\/H e=some (.own x))(k:∀ b u,b≠e->h.get? b=some u->h'.get? b=some u)(heo:∃ u,h'.get? e=some u):Un fs ex H (i8 H x o) h h':=by
 have hx:∀ b,H b=none->b≠x:=λb n z=>by subst z;rw[n]at mu;exact mu
 have hb:∀ b,H b=none->b≠e:=λb n z=>by
  subst z;rcases he with r|r
  ·exact hx b n r
  ·rw[n]at r;cases r
 have hm:∀ b u,H b=some u->¬ FZ (some u)->b≠x:=λb u q nm z=>by subst z;rw[q]at mu;exact nm mu
 refine⟨λb u q n _ _=>k b u (hb b n) q,λb u q n _ _=>⟨u.slots,k b u (hb b n) q⟩,λb u q n _=>by rw[i0 (hx b n)];exact n,λb u q _=>?_,
  λb xs q=>by rw[i0 (hm b _ q λz=>z)];exact q,λb u xs q=>by rw[i0 (hm b _ q λz=>z)];exact q,λb ps q=>⟨#[],by rw[i0 (hm b _ q λz=>z),q];simp⟩⟩
 by_cases hbe:b=e
 ·subst hbe;exact heo
 ·exact⟨u,k b u hbe q⟩
end
def Gc (h:Heap)(H:Hp):List Addr:=(List.range h.objs.size).filter λa=>(H a).isSome
def mm (h:Heap)(H:Hp):Heap:=W.hideAll h (Gc h H)
theorem uE (h:Heap)(H:Hp):(mm h H).objs.size=h.objs.size:=W.hideAll_size _ _
theorem xV {h:Heap}{H:Hp}{b:Addr}{o:Obj}(e:h.get? b=some o)(n:H b=none):(mm h H).get? b=some o :=
 W.hideAll_get _ e λhm=>by
  have q:(H b).isSome=true:=(List.mem_filter.mp hm).2;rw[n]at q;simp at q
theorem zN {h:Heap}{H:Hp}{b:Addr}{o:Obj}(e:(mm h H).get? b=some o):h.get? b=some o/\H b=none:=by
 have e':h.get? b=some o:=W.of_hideAll (Gc h H) e;refine⟨e',?_⟩;cases q:H b with
 |none=>rfl
 |some x =>
  have hm:b∈Gc h H:=List.mem_filter.mpr ⟨List.mem_range.mpr (Heap.lt_size e'),by simp[q]⟩;have z:(mm h H).get? b=none:=W.hideAll_none (Gc h H) hm;rw[z]at e;cases e
structure Mod (K:W.Frag)(mg:Str->Option Value)(base:Heap):Prop where
 kin:K.In base
 glob:base.Ns mainGlobals mg
 blt:∃ mb,base.Ns builtinsNs mb/\∀ x:Str,x≠"__name__"->mb x=bootBuiltins x
 nolimit:base.NoLimit
 digits:base.NoDigits
 seer:base.NoSeer
 bmain:∃ bm ob,mg "__builtins__"=some (.ref bm)/\bm≠builtinsNs/\base.get? bm=some ob/\ob.cls=.type "module"/\ob.dict=some builtinsNs/\ob.data=.plain
structure Cx where
 prog:Program
 w:World
 K:W.Frag
 mg:Str->Option Value
 base:Heap
 A:Around
 N:List Str
 s_0:Shared
 H_0:Hp
 env:Env
 outer:List Env
 stack:List Env
 ex:List Addr
 fn:Str->Bool
 calm:Bool
 pn:List (Addr×Obj)
 xe:Value->Shared->Prop
def qE (l:List Env):List Addr:=l.filterMap (·.frame)
abbrev Cx.fs (X:Cx):List Addr:=qE X.outer
def Ex (sc:Scope)(x:Str):Prop:=sc.names.lookup x=some .local \/sc.names.lookup x=some .cell\/sc.names.lookup x=some .free
def Ga (sc:Scope)(x:Str):Prop:=sc.names.lookup x=some .local \/sc.names.lookup x=some .cell
def GY (env:Env)(h:Heap)(m:Str->Option Value)(x:Str)(u:Value):Prop :=
 (env.kindOf x=some .local /\m x=some u)\/((env.kindOf x=some .cell\/env.kindOf x=some .free)/\∃ c,env.cells.lookup x=some c/\h.IsCell c (some u))
structure Cx.Ok (X:Cx):Prop where
 mod:Mod X.K X.mg X.base
 kind:X.env.scope.kind=.function
 glob:X.env.globals=mainGlobals
 blt:X.env.builtins=builtinsNs
 above:X.s_0.heap.objs.size<=X.env.locals
 inj:∀ x y c,X.env.cells.lookup x=some c->X.env.cells.lookup y=some c->x=y
 has:∀ x,(X.env.kindOf x=some .cell\/X.env.kindOf x=some .free)->∃ c,X.env.cells.lookup x=some c
 cab:∀ x c,X.fn x=true->X.env.cells.lookup x=some c->X.s_0.heap.objs.size<=c
 hd:X.calm=true->X.A.handled=none
 frames:X.A.frames=some X.stack
 stk:X.stack=X.outer\/(X.stack=X.env::X.outer/\X.env.frame=some X.env.locals)
 exf:∀ b∈X.ex,b≠X.env.locals/\∀ x c,X.env.cells.lookup x=some c->c≠b
 bs:∀ b o,X.base.get? b=some o->X.s_0.heap.get? b=some o/\X.H_0 b=none
 bsz:X.base.objs.size<=X.s_0.heap.objs.size
 noex:∀ b o,X.base.get? b=some o->b∉X.ex
 exfs:∀ b∈X.ex,b∉X.fs
 funs:X.s_0.heap.FunFrames X.base X.outer
 frf:∀ b∈X.fs,X.H_0 b=none
structure j7 (X:Cx)(pins:List (Addr×Obj))(σ:List (Option V))(H:Hp)(s:Shared):Prop where
 ok:X.Ok
 os:s.os=X.s_0.os
 bare:AllBare s.gens
 base:Un X.fs X.ex X.H_0 H X.s_0.heap s.heap
 loc:∃ m,s.heap.Ns X.env.locals m/\∀ (i:Nat) (x:Str) (v:V),X.N[i]?=some x->σ[i]?=some (some v)->Ex X.env.scope x->∃ u,A0 v u/\GY X.env s.heap m x u
 cell:∀ x c,X.env.cells.lookup x=some c->∃ v,s.heap.IsCell c v
 free:H X.env.locals=none
 freeC:∀ x c,X.env.cells.lookup x=some c->H c=none
 pin:∀ p∈X.pn++pins,s.heap.get? p.1=some p.2/\H p.1=none/\p.1≠X.env.locals/\p.1∉X.fs/\∀ v,p.2.data≠.cell v
 hok:ay X.prog X.w H s.heap
 len:σ.length=X.N.length
section
variable {X:Cx}{pins:List (Addr×Obj)}{σ:List (Option V)}{H H':Hp}{s:Shared}{h':Heap}
theorem Cx.Ok.nofr (ok:X.Ok){b:Addr}{o:Obj}(e:X.base.get? b=some o):b∉X.fs:=λhb=>by
 have:=(ok.funs.mem hb).1;rw[e]at this;cases this
theorem j7.bs (I:j7 X pins σ H s):∀ b o,X.base.get? b=some o->s.heap.get? b=some o/\H b=none:=λb o e =>
 ⟨I.base.keep b o (I.ok.bs b o e).1 (I.ok.bs b o e).2 (I.ok.nofr e) (I.ok.noex b o e),I.base.free b o (I.ok.bs b o e).1 (I.ok.bs b o e).2 (I.ok.noex b o e)⟩
theorem j7.bk (I:j7 X pins σ H s):∀ b o,X.base.get? b=some o->s.heap.get? b=some o:=λb o e=>(I.bs b o e).1
theorem j7.mod (I:j7 X pins σ H s):Mod X.K X.mg X.base:=I.ok.mod
theorem j7.kIn (I:j7 X pins σ H s):X.K.In s.heap:=I.ok.mod.kin.keeps I.bk
theorem j7.nolimit (I:j7 X pins σ H s):s.heap.NoLimit:=I.ok.mod.nolimit.keeps I.bk
theorem j7.fr (I:j7 X pins σ H s):∃ m,Fr X.base X.env.locals s.heap m :=
 let⟨m,hn,_⟩:=I.loc
 ⟨m,hn,I.bk,Nat.le_trans I.ok.bsz I.ok.above⟩
theorem j7.lt (I:j7 X pins σ H s):X.env.locals<s.heap.objs.size:=let⟨_,hn,_⟩:=I.loc;hn.lt
theorem j7.sz (I:j7 X pins σ H s):X.s_0.heap.objs.size<=s.heap.objs.size:=Nat.le_trans I.ok.above (Nat.le_of_lt I.lt)
theorem j7.nofs (I:j7 X pins σ H s){a:Addr}(h:s.heap.objs.size<=a):a∉X.fs:=λhb=>by
 obtain⟨_,o,ho,_⟩:=I.ok.funs.mem hb;exact absurd (Nat.lt_of_lt_of_le (Heap.lt_size ho) (Nat.le_trans I.sz h)) (Nat.lt_irrefl _)
theorem j7.cne (I:j7 X pins σ H s):∀ x c,X.env.cells.lookup x=some c->c≠X.env.locals:=λx c e z=>by
 obtain⟨v,o,ho,hd⟩:=I.cell x c e;obtain⟨m,⟨o',es,ep,ho',hd',_⟩,_⟩:=I.loc;rw[z,ho']at ho;cases ho;rw[hd']at hd;cases hd
theorem j7.funs (I:j7 X pins σ H s):s.heap.FunFrames X.base X.outer:=by
 have all:∀ (l:List Env),(∀ b∈qE l,b∈X.fs)->X.s_0.heap.FunFrames X.base l->s.heap.FunFrames X.base l:=by
  intro l
  induction l with
  |nil=>intro _ _;trivial
  |cons env r ih =>
   intro hs hl;obtain⟨hk,⟨L,o,hf,hn,ho,hd⟩,hr⟩:=hl;have hL:L∈X.fs:=hs L (by unfold qE;rw[List.filterMap_cons,hf];exact List.mem_cons_self);obtain⟨sl,e⟩:=I.base.slot L o ho (I.ok.frf L hL) hL λz=>I.ok.exfs L z hL;exact⟨hk,⟨L,_,hf,hn,e,hd⟩,ih (λb hb=>hs b (by unfold qE;rw[List.filterMap_cons,hf];exact List.mem_cons_of_mem _ hb)) hr⟩
 exact all X.outer (λ_ hb=>hb) I.ok.funs
theorem j7.stack (I:j7 X pins σ H s):s.heap.FunFrames X.base X.stack:=by
 rcases I.ok.stk with e|⟨e,hf⟩
 ·rw[e];exact I.funs
 ·rw[e];obtain⟨m,hn,_⟩:=I.loc;refine .cons (by rw[I.ok.kind];decide) hf hn ?_ I.funs;exact Heap.get?_none_of_le (Nat.le_trans I.ok.bsz I.ok.above)
theorem j7.stkSub (I:j7 X pins σ H s):∀ b∈qE X.stack,b∈X.env.locals::X.fs:=λb hb=>by
 rcases I.ok.stk with e|⟨e,hf⟩
 ·rw[e]at hb;exact List.mem_cons_of_mem _ hb
 ·rw[e]at hb;unfold qE at hb;rw[List.filterMap_cons,hf]at hb;exact hb
theorem j7.stkFree (I:j7 X pins σ H s):∀ b∈qE X.stack,H b=none:=λb hb=>by
 rcases List.mem_cons.mp (I.stkSub b hb)with e|hb
 ·rw[e];exact I.free
 ·obtain⟨_,o,ho,_⟩:=I.ok.funs.mem hb;exact I.base.free b o ho (I.ok.frf b hb) λz=>I.ok.exfs b z hb
theorem j7.step {g':Array GenState}{t':Nat}{d':Drawn}{ch:List Addr}(I:j7 X pins σ H s)
  (hch:∀ b∈ch,(b∈X.ex\/X.s_0.heap.objs.size<=b)/\b≠X.env.locals/\(∀ x c,X.env.cells.lookup x=some c->c≠b)/\∀ p∈X.pn++pins,p.1≠b)
  (keep:∀ b o,b≠X.env.locals->b∉X.fs->b∉ch->s.heap.get? b=some o->H b=none->h'.get? b=some o)
  (slot:∀ b o,b≠X.env.locals->b∈X.fs->b∉ch->s.heap.get? b=some o->H b=none->∃ sl,h'.get? b=some { o with slots:=sl }) (free:∀ b o,b∉ch->s.heap.get? b=some o->H b=none->H' b=none)
  (there:∀ b o,b∉ch->s.heap.get? b=some o->∃ o',h'.get? b=some o')
  (tups:∀ b xs,H b=some (.tup xs)->H' b=some (.tup xs)) (frzs:∀ b o u,H b=some (.frz o u)->H' b=some (.frz o u)) (tbls:∀ b ps,H b=some (.tbl ps)->∃ more,H' b=some (.tbl (ps++more)))
  (ns:∀ m,s.heap.Ns X.env.locals m->h'.Ns X.env.locals m) (hok:ay X.prog X.w H' h') (hg:AllBare g') :
  j7 X pins σ H' { s with heap:=h',gens:=g',drawn:=d',toks:=t' }:=by
 have neL:∀ b o,X.s_0.heap.get? b=some o->b≠X.env.locals:=λb o e=>Nat.ne_of_lt (Nat.lt_of_lt_of_le (Heap.lt_size e) I.ok.above);have neC:∀ b o,X.s_0.heap.get? b=some o->b∉X.ex->b∉ch:=λb o e hx hb=>by
  rcases(hch b hb).1 with z|z
  ·exact hx z
  ·exact absurd (Nat.lt_of_lt_of_le (Heap.lt_size e) z) (Nat.lt_irrefl _)
 have cellK:∀ x c,X.env.cells.lookup x=some c->∀ v,s.heap.IsCell c v->h'.IsCell c v:=λx c e v ⟨o,ho,hd⟩=>by
  have nch:c∉ch:=λz=>(hch c z).2.2.1 x c e rfl;by_cases hc:c∈X.fs
  ·obtain⟨sl,q⟩:=slot c o (I.cne x c e) hc nch ho (I.freeC x c e);exact⟨_,q,hd⟩
  ·exact⟨o,keep c o (I.cne x c e) hc nch ho (I.freeC x c e),hd⟩
 refine⟨I.ok,I.os,hg,⟨λb o e n hb hx=>?_,λb o e n hb hx=>?_,λb o e n hx=>?_,λb o e hx=>?_,λb xs e=>tups b xs (I.base.tups b xs e),λb o xs e=>frzs b o xs (I.base.frzs b o xs e),λb ps e=>?_⟩,?_,λx c e=>?_,?_,λx c e=>?_,λp hp=>?_,hok,I.len⟩
 ·exact keep b o (neL b o e) hb (neC b o e hx) (I.base.keep b o e n hb hx) (I.base.free b o e n hx)
 ·obtain⟨sl,e1⟩:=I.base.slot b o e n hb hx;obtain⟨sl',e2⟩:=slot b _ (neL b o e) hb (neC b o e hx) e1 (I.base.free b o e n hx);exact⟨sl',e2⟩
 ·obtain⟨o',e1⟩:=I.base.there b o e hx;exact free b o' (neC b o e hx) e1 (I.base.free b o e n hx)
 ·obtain⟨o',e1⟩:=I.base.there b o e hx;exact there b o' (neC b o e hx) e1
 ·obtain⟨m1,e1⟩:=I.base.tbls b ps e;obtain⟨m2,e2⟩:=tbls b _ e1;exact⟨m1++m2,by rw[e2,Array.append_assoc]⟩
 ·obtain⟨m,hn,hl⟩:=I.loc;refine⟨m,ns m hn,λi x v e1 e2 e3=>?_⟩;obtain⟨u,r,l⟩:=hl i x v e1 e2 e3;refine⟨u,r,?_⟩;rcases l with l|⟨k,c,e,z⟩
  ·exact .inl l
  ·exact .inr ⟨k,c,e,cellK x c e _ z⟩
 ·obtain⟨v,z⟩:=I.cell x c e;exact⟨v,cellK x c e v z⟩
 ·obtain⟨m,⟨o,_,_,ho,_⟩,_⟩:=I.loc;exact free _ o (λz=>(hch _ z).2.1 rfl) ho I.free
 ·obtain⟨v,o,ho,hd⟩:=I.cell x c e;exact free c o (λz=>(hch c z).2.2.1 x c e rfl) ho (I.freeC x c e)
 ·obtain⟨e,n,ne,nf,d⟩:=I.pin p hp;have nch:p.1∉ch:=λz=>(hch p.1 z).2.2.2 p hp rfl;exact⟨keep p.1 p.2 ne nf nch e n,free p.1 p.2 nch e n,ne,nf,d⟩
theorem j7.un {t':Nat}(I:j7 X pins σ H s)(u:Un X.fs [] H H' s.heap h')(hok:ay X.prog X.w H' h'):j7 X pins σ H' { s with heap:=h',toks:=t' }:=by
 obtain⟨m,⟨o,es,ep,ho,r⟩,_⟩:=id I.loc;obtain⟨sl,hL⟩:=u.any ho I.free (by simp);exact I.step (g':=s.gens) (d':=s.drawn) (ch:=[]) (λ_ z=>nomatch z) (λb o _ hb _ e n=>u.keep b o e n hb (by simp)) (λb o _ hb _ e n=>u.slot b o e n hb (by simp)) (λb o _ e n=>u.free b o e n (by simp)) (λb o _ e=>u.there b o e (by simp)) u.tups u.frzs u.tbls (λm' hm=>by
  obtain⟨o',es',ep',ho',r'⟩:=hm;rw[ho]at ho';cases ho';exact⟨_,es',ep',hL,r'⟩) hok I.bare
theorem j7.call {g':Array GenState}{t':Nat}{d':Drawn}{ch:List Addr}(I:j7 X pins σ H s)(u:Un (qE X.stack) ch H H' s.heap h')(hok:ay X.prog X.w H' h')(hg:AllBare g')
  (hch:∀ b∈ch,(b∈X.ex\/X.s_0.heap.objs.size<=b)/\b≠X.env.locals/\(∀ x c,X.env.cells.lookup x=some c->c≠b)/\∀ p∈X.pn++pins,p.1≠b) :
  j7 X pins σ H' { s with heap:=h',gens:=g',drawn:=d',toks:=t' }:=by
 obtain⟨m,⟨o,es,ep,ho,r⟩,_⟩:=id I.loc;obtain⟨sl,hL⟩:=u.any ho I.free λz=>(hch _ z).2.1 rfl;exact I.step (ch:=ch) hch (λb o hL hb hc e n=>u.keep b o e n (λz=>(List.mem_cons.mp (I.stkSub b z)).elim hL hb) hc) (λb o _ _ hc e n=>u.any e n hc) (λb o hc e n=>u.free b o e n hc) (λb o hc e=>u.there b o e hc) u.tups u.frzs u.tbls (λm' hm=>by
  obtain⟨o',es',ep',ho',r'⟩:=hm;rw[ho]at ho';cases ho';exact⟨_,es',ep',hL,r'⟩) hok hg
theorem j7.turned {t':Nat}{it:Addr}(I:j7 X pins σ H s)(k:∀ b o,b≠it->s.heap.get? b=some o->h'.get? b=some o)(hn:H it=none)(hL:it≠X.env.locals)
  (h1:it∈X.ex\/X.s_0.heap.objs.size<=it) (h2:∀ x c,X.env.cells.lookup x=some c->c≠it) (h3:∀ p∈X.pn++pins,p.1≠it):j7 X pins σ H { s with heap:=h',toks:=t' }:=by
 have nit:∀ b u,H b=some u->b≠it:=λb u e z=>by rw[z,hn]at e;cases e
 refine I.step (g':=s.gens) (d':=s.drawn) (ch:=[it]) (λb hb=>?_) (λb o _ _ hc e _=>k b o (λz=>hc (by simp[z])) e) (λb o _ _ hc e _=>⟨o.slots,k b o (λz=>hc (by simp[z])) e⟩) (λ_ _ _ _ n=>n)
  (λb o hc e=>⟨o,k b o (λz=>hc (by simp[z])) e⟩) (λ_ _ e=>e) (λ_ _ _ e=>e) (λb ps e=>⟨#[],by rw[e];simp⟩) (λm hm=>?_) (λb u e=>?_) I.bare
 ·have e:b=it:=by simpa using hb
  subst e;exact⟨h1,hL,h2,h3⟩
 ·obtain⟨o,es,ep,ho,r⟩:=hm;exact⟨o,es,ep,k _ o (Ne.symm hL) ho,r⟩
 ·refine(I.hok b u e).stay (λc v hc q=>k c v ?_ q) (λ_ q=>q) λ_ _ q=>q;rcases hc with z|z
  ·rw[z];exact nit b u e
  ·exact nit c _ z
theorem j7.tok (I:j7 X pins σ H s)(t:Nat):j7 X pins σ H { s with toks:=t }:=I.un (h':=s.heap) (t':=t) Un.refl I.hok
theorem j7.kept {t':Nat}(I:j7 X pins σ H s)(k:∀ b u,s.heap.get? b=some u->h'.get? b=some u):j7 X pins σ H { s with heap:=h',toks:=t' }:=I.un (Un.kept k) (I.hok.kept k)
theorem j7.laid {a:Addr}{o:HO}{t':Nat}(I:j7 X pins σ H s)(k:∀ b u,s.heap.get? b=some u->h'.get? b=some u)(hp:s.heap.objs.size<=a)(new:y3 X.prog X.w (i8 H a o) h' a o) :
  j7 X pins σ (i8 H a o) { s with heap:=h',toks:=t' }:=I.un (Un.laid k hp (I.hok.fresh hp)) (I.hok.laid k hp new)
theorem j7.write {x e:Addr}{o:HO}{t':Nat}(I:j7 X pins σ H s)(mu:FZ (H x))(he:e=x\/H e=some (.own x))(k:∀ b u,b≠e->s.heap.get? b=some u->h'.get? b=some u)(heo:∃ u,h'.get? e=some u)
  (new:y3 X.prog X.w (i8 H x o) h' x o):j7 X pins σ (i8 H x o) { s with heap:=h',toks:=t' }:=I.un (Un.write mu he k heo) (I.hok.write mu he k heo new)
theorem j7.weak {σ':List (Option V)}(I:j7 X pins σ H s)(hl:σ'.length=σ.length)(w:∀ (i:Nat) v,σ'[i]?=some (some v)->σ[i]?=some (some v)):j7 X pins σ' H s :=
 ⟨I.ok,I.os,I.bare,I.base,let⟨m,hn,hl'⟩:=I.loc;⟨m,hn,λi x v e1 e2 e3=>hl' i x v e1 (w i v e2) e3⟩,I.cell,I.free,I.freeC,I.pin,I.hok,hl.trans I.len⟩
theorem j7.pins_of {pins':List (Addr×Obj)}(I:j7 X pins σ H s)(h:∀ p∈pins',s.heap.get? p.1=some p.2/\H p.1=none/\p.1≠X.env.locals/\p.1∉X.fs/\∀ v,p.2.data≠.cell v):j7 X pins' σ H s :=
 ⟨I.ok,I.os,I.bare,I.base,I.loc,I.cell,I.free,I.freeC,λp hp=>(List.mem_append.mp hp).elim (λz=>I.pin p (List.mem_append_left _ z)) (h p),I.hok,I.len⟩
theorem jf {N:List Str}(hN:N.Nodup){i j:Nat}{x:Str}(a:N[i]?=some x)(b:N[j]?=some x):i=j:=by
 obtain⟨h1,e1⟩:=List.getElem?_eq_some_iff.mp a;obtain⟨h2,e2⟩:=List.getElem?_eq_some_iff.mp b;exact(List.getElem_inj hN).mp (e1.trans e2.symm)
theorem cK {M:Model}{A:Around}{E:Value->Shared->Prop}{i:Nat}{x:Str}{v:V}{u:Value}{Q:Unit->Shared->Prop}(I:j7 X pins σ H s)(hN:X.N.Nodup)(hi:X.N[i]?=some x)(hx:Ga X.env.scope x)(r:A0 v u)
  (h:∀ s',j7 X pins (σ.set i (some v)) H s'->(∃ a,Heap.SameBut a s.heap s'.heap/\(a=X.env.locals\/X.env.cells.lookup x=some a))->Q () s') (hf:X.fn x=true\/X.env.scope.names.lookup x=some .local:=by first|exact .inl rfl|exact .inr rfl|assumption):wpAny M A (storeName X.env x u) Q E s:=by
 obtain⟨m,hn,hl⟩:=id I.loc;have hcls:(X.env.scope.kind==.class||(X.env.scope.kind==.module&&X.env.locals !=X.env.globals))=false:=by rw[I.ok.kind];rfl
 have hiσ:i<σ.length:=by rw[I.len];exact(List.getElem?_eq_some_iff.mp hi).1
 have cne:=I.cne;have tracked:∀ {a:Addr}{h':Heap},(∃ o,s.heap.get? a=some o/\H a=none)->Heap.SameBut a s.heap h'->ay X.prog X.w H h':=λ{a h'} ha hs b ob e=>by
  obtain⟨_,_,hfree⟩:=ha;refine(I.hok b ob e).stay (λc w' hc q=>(hs.2 c ?_).trans q) (λ_ q=>q) λ_ _ q=>q;rintro rfl;rcases hc with rfl|hc
  ·rw[hfree]at e;cases e
  ·rw[hfree]at hc;cases hc
 rcases hx with hk|hk
 ·refine wpAny_storeName_local hk hn (λh' hn' hs=>?_) hcls;obtain⟨oL,_,_,hoL,_⟩:=id hn;refine h _ ⟨I.ok,I.os,I.bare,⟨λb o e n hb hx=>?_,λb o e n hb hx=>?_,I.base.free,λb o e hx=>?_,I.base.tups,I.base.frzs,I.base.tbls⟩,⟨_,hn',λj y v' e1 e2 e3=>?_⟩,λy c e=>?_,I.free,I.freeC,λp hp=>?_,tracked ⟨oL,hoL,I.free⟩ hs,by simpa using I.len⟩ ⟨_,hs,.inl rfl⟩
  ·exact(hs.2 b (Nat.ne_of_lt (Nat.lt_of_lt_of_le (Heap.lt_size e) I.ok.above))).trans (I.base.keep b o e n hb hx)
  ·obtain⟨sl,e1⟩:=I.base.slot b o e n hb hx;exact⟨sl,(hs.2 b (Nat.ne_of_lt (Nat.lt_of_lt_of_le (Heap.lt_size e) I.ok.above))).trans e1⟩
  ·obtain⟨o',e1⟩:=I.base.there b o e hx;exact⟨o',(hs.2 b (Nat.ne_of_lt (Nat.lt_of_lt_of_le (Heap.lt_size e) I.ok.above))).trans e1⟩
  ·by_cases hj:j=i
   ·subst hj;rw[hi]at e1;cases e1;rw[List.getElem?_set_self hiσ]at e2;cases e2;exact⟨u,r,.inl ⟨hk,by simp⟩⟩
   ·rw[List.getElem?_set_ne (Ne.symm hj)]at e2;obtain⟨u',r',q⟩:=hl j y v' e1 e2 e3;refine⟨u',r',?_⟩;rcases q with⟨k,e⟩|⟨k,c,e,z⟩
    ·refine .inl ⟨k,?_⟩;have:y≠x:=λe=>hj (jf hN e1 (e▸hi));simp[this,e]
    ·exact .inr ⟨k,c,e,z.sameBut hs (cne y c e)⟩
  ·obtain⟨w',z⟩:=I.cell y c e;exact⟨w',z.sameBut hs (cne y c e)⟩
  ·obtain⟨e,n,ne,nf,d⟩:=I.pin p hp;exact⟨(hs.2 p.1 ne).trans e,n,ne,nf,d⟩
 ·have hfn:X.fn x=true:=by
   rcases hf with z|z
   ·exact z
   ·rw[z]at hk;cases hk
  obtain⟨c,hc⟩:=I.ok.has x (.inl hk);obtain⟨w',z⟩:=I.cell x c hc;refine wpAny_storeName_cell I.ok.kind hk hc z (λh' hc' hs=>?_);obtain⟨oc,hoc,hocd⟩:=id z;refine h { s with heap:=h' } ⟨I.ok,I.os,I.bare,⟨λb o e n hb hx=>?_,λb o e n hb hx=>?_,I.base.free,λb o e hx=>?_,I.base.tups,I.base.frzs,I.base.tbls⟩,⟨m,hn.sameBut hs (Ne.symm (cne x c hc)),λj y v' e1 e2 e3=>?_⟩,λy c' e=>?_,I.free,I.freeC,λp hp=>?_,tracked ⟨oc,hoc,I.freeC x c hc⟩ hs,by simpa using I.len⟩ ⟨c,hs,.inr hc⟩
  ·exact(hs.2 b (Nat.ne_of_lt (Nat.lt_of_lt_of_le (Heap.lt_size e) (I.ok.cab x c hfn hc)))).trans (I.base.keep b o e n hb hx)
  ·obtain⟨sl,e1⟩:=I.base.slot b o e n hb hx;exact⟨sl,(hs.2 b (Nat.ne_of_lt (Nat.lt_of_lt_of_le (Heap.lt_size e) (I.ok.cab x c hfn hc)))).trans e1⟩
  ·obtain⟨o',e1⟩:=I.base.there b o e hx;exact⟨o',(hs.2 b (Nat.ne_of_lt (Nat.lt_of_lt_of_le (Heap.lt_size e) (I.ok.cab x c hfn hc)))).trans e1⟩
  ·by_cases hj:j=i
   ·subst hj;rw[hi]at e1;cases e1;rw[List.getElem?_set_self hiσ]at e2;cases e2;exact⟨u,r,.inr ⟨.inl hk,c,hc,hc'⟩⟩
   ·rw[List.getElem?_set_ne (Ne.symm hj)]at e2;obtain⟨u',r',q⟩:=hl j y v' e1 e2 e3;refine⟨u',r',?_⟩;rcases q with q|⟨k,c',e,z'⟩
    ·exact .inl q
    ·refine .inr ⟨k,c',e,z'.sameBut hs ?_⟩;rintro rfl;exact hj (jf hN e1 (I.ok.inj _ _ _ e hc▸hi))
  ·by_cases hcc:c'=c
   ·subst hcc;exact⟨_,hc'⟩
   ·obtain⟨w2,z2⟩:=I.cell y c' e;exact⟨w2,z2.sameBut hs hcc⟩
  ·obtain⟨e,n,ne,nf,d⟩:=I.pin p hp;refine⟨(hs.2 p.1 ?_).trans e,n,ne,nf,d⟩;intro q;rw[q,hoc]at e;have q':oc=p.2:=Option.some.inj e;exact d w' (by rw[<-q'];exact hocd)
theorem iA {M:Model}{A:Around}{E:Value->Shared->Prop}{i:Nat}{x:Str}{v:V}{u:Value}{Q:Unit->Shared->Prop}(I:j7 X pins σ H s)(hN:X.N.Nodup)(hi:X.N[i]?=some x)(hx:Ga X.env.scope x)(r:A0 v u)
  (h:∀ s',j7 X pins (σ.set i (some v)) H s'->Q () s') (hf:X.fn x=true\/X.env.scope.names.lookup x=some .local:=by first|exact .inl rfl|exact .inr rfl|assumption):wpAny M A (storeName X.env x u) Q E s :=
 cK I hN hi hx r (λs' I' _=>h s' I') hf
theorem j7.call' {s':Shared}{ch:List Addr}(I:j7 X pins σ H s)(ho:s'.os=s.os)(u:Un (qE X.stack) ch H H' s.heap s'.heap)(hok:ay X.prog X.w H' s'.heap)(hg:AllBare s'.gens)
  (hch:∀ b∈ch,(b∈X.ex\/X.s_0.heap.objs.size<=b)/\b≠X.env.locals/\(∀ x c,X.env.cells.lookup x=some c->c≠b)/\∀ p∈X.pn++pins,p.1≠b):j7 X pins σ H' s':=by
 obtain⟨h',g',d',t',o'⟩:=s';have e:o'=s.os:=ho;subst e;exact I.call (g':=g') (t':=t') (d':=d') u hok hg hch
end
abbrev XK:=Value->Option Addr->Hp->Prop
abbrev St:=List (Option V)
abbrev VK:=V->Hp->Prop
abbrev TE:=St->Hp->VK->Prop
abbrev TT:=St->Hp->(Bool->Hp->Prop)->Prop
abbrev TA:=St->Hp->(List V->Hp->Prop)->Prop
structure jS where
 nx:St->Hp->Prop
 rt:VK
 bk:St->Hp->Prop:=λ_ _=>False
 ct:St->Hp->Prop:=λ_ _=>False
abbrev TS:=jS->St->Hp->Prop
def EP (X:Cx)(pins:List (Addr×Obj))(σ:St)(Q:VK)(u:Value)(s':Shared):Prop:=∃ v H',j7 X pins σ H' s'/\A0 v u/\Q v H'
def TP (X:Cx)(pins:List (Addr×Obj))(σ:St)(Q:Bool->Hp->Prop)(b:Bool)(s':Shared):Prop:=∃ H',j7 X pins σ H' s'/\Q b H'
def AP (X:Cx)(pins:List (Addr×Obj))(σ:St)(Q:List V->Hp->Prop)(us:List Value)(s':Shared):Prop:=∃ vs H',j7 X pins σ H' s'/\x9 vs us/\Q vs H'
def SP (X:Cx)(pins:List (Addr×Obj))(D:jS)(f:Flow)(s':Shared):Prop :=
 match f with
 |.next=>∃ σ' H',j7 X pins σ' H' s'/\D.nx σ' H'
 |.brk=>∃ σ' H',j7 X pins σ' H' s'/\D.bk σ' H'
 |.cont=>∃ σ' H',j7 X pins σ' H' s'/\D.ct σ' H'
 |.ret u=>∃ v σ' H',j7 X pins σ' H' s'/\A0 v u/\D.rt v H'
def PE (X:Cx)(e:Expr)(t:TE):Prop :=
 ∀ (pins:List (Addr×Obj)) (s:Shared) (σ:St) (H:Hp) (Q:VK),j7 X pins σ H s->t σ H Q->wpAny (model X.prog X.w) X.A (eval e X.env) (EP X pins σ Q) X.xe s
def PT (X:Cx)(e:Expr)(t:TT):Prop :=
 ∀ (pins:List (Addr×Obj)) (s:Shared) (σ:St) (H:Hp) (Q:Bool->Hp->Prop),j7 X pins σ H s->t σ H Q->wpAny (model X.prog X.w) X.A (isTrue e X.env (eval e X.env)) (TP X pins σ Q) X.xe s
def PW (X:Cx)(e:Expr)(t:TT):Prop :=
 ∀ (whole:Sem Value) (pins:List (Addr×Obj)) (s:Shared) (σ:St) (H:Hp) (Q:Bool->Hp->Prop),j7 X pins σ H s->t σ H Q->wpAny (model X.prog X.w) X.A (isTrue e X.env whole) (TP X pins σ Q) X.xe s
theorem PW.pt {X:Cx}{e:Expr}{t:TT}(h:PW X e t):PT X e t:=h _
def PA (X:Cx)(es:List Expr)(t:TA):Prop :=
 ∀ (pos:Pos) (pins:List (Addr×Obj)) (s:Shared) (σ:St) (H:Hp) (Q:List V->Hp->Prop),j7 X pins σ H s->t σ H Q->wpAny (model X.prog X.w) X.A (spliced (backTo pos (starEach es X.env))) (AP X pins σ Q) X.xe s
def PS (X:Cx)(st:Stmt)(t:TS):Prop :=
 ∀ (pins:List (Addr×Obj)) (s:Shared) (σ:St) (H:Hp) (D:jS),j7 X pins σ H s->t D σ H->wpAny (model X.prog X.w) X.A (exec st X.env) (SP X pins D) X.xe s
def pJ (X:Cx)(st:List Stmt)(t:TS):Prop :=
 ∀ (pins:List (Addr×Obj)) (s:Shared) (σ:St) (H:Hp) (D:jS),j7 X pins σ H s->t D σ H->wpAny (model X.prog X.w) X.A (execs st X.env) (SP X pins D) X.xe s
theorem B9 {α:Type}{t:Sem α}{Q Q':α->Shared->Prop}{M:Model}{A:Around}{E:Value->Shared->Prop}{s:Shared}(h:wpAny M A t Q E s)(hQ:∀ a s,Q a s->Q' a s):wpAny M A t Q' E s:=wpAny_mono h hQ λ_ _ x=>x
section
variable {X:Cx}
theorem HI {a b:Expr}{ta tb:TE}(ha:PE X a ta)(hb:PE X b tb){pins:List (Addr×Obj)}{s:Shared}{σ:St}{H:Hp}{R:V->V->Hp->Prop}(I:j7 X pins σ H s)(h:ta σ H λx H1=>tb σ H1 λy H2=>R x y H2)
  {α:Type}{Q:α->Shared->Prop}{f:Value->Value->Sem α}
  (hf:∀ v u s2 x y H2,j7 X pins σ H2 s2->A0 x v->A0 y u->R x y H2->wpAny (model X.prog X.w) X.A (f v u) Q X.xe s2) :
  wpAny (model X.prog X.w) X.A (eval a X.env) (λv s₁=>wpAny (model X.prog X.w) X.A (eval b X.env) (λu s₂=>wpAny (model X.prog X.w) X.A (f v u) Q X.xe s₂) X.xe s₁) X.xe s:=by
 refine B9 (ha pins s σ H _ I h) λv s1 ⟨x,H1,I1,r1,q1⟩=>?_;refine B9 (hb pins s1 σ H1 _ I1 q1) λu s2 ⟨y,H2,I2,r2,q2⟩=>?_;exact hf v u s2 x y H2 I2 r1 r2 q2
def J6 (i:Nat):TE:=λσ H Q=>∃ v,σ[i]?=some (some v)/\Q v H
def tC (v:V):TE:=λ_ H Q=>Q v H
theorem wO {i:Nat}{x:Str}{pos:Pos}(hN:X.N[i]?=some x)(hv:Ex X.env.scope x)(hd:(x==("__debug__" : Str))=false:=by decide)(hcd:(x==("__classdict__" : Str))=false:=by decide):PE X (.Name x pos) (J6 i):=by
 intro pins s σ H Q I h;obtain⟨v,e,h⟩:=h;obtain⟨m,hn,hl⟩:=I.loc;obtain⟨u,r,l⟩:=hl i x v hN e hv;have fin:EP X pins σ Q u s:=⟨v,H,I,r,h⟩;rcases l with⟨hk,hm⟩|⟨hk,c,hc,hcell⟩
 ·exact wpAny_Name (wpAny_loadName_local I.ok.kind hk hn hm fin) hd
 ·rcases hk with hk|hk
  ·exact wpAny_Name (wpAny_loadName_cell I.ok.kind hk hc hcell fin) hd
  ·exact wpAny_Name (wpAny_loadName_free I.ok.kind hk hc hcell fin hcd) hd
theorem g8 {i j pos}:PE X (.Constant (.int i) j pos) (tC (.int i)):=λ_ _ _ H _ I h=>wpAny_Constant_int ⟨.int i,H,I.tok _,⟨_,rfl⟩,h⟩
theorem km {b j pos}:PE X (.Constant (.bool b) j pos) (tC (.bl b)):=λ_ _ _ H _ I h=>Constant_bool ⟨.bl b,H,I,rfl,h⟩
theorem Ce {j pos}:PE X (.Constant .none j pos) (tC .non):=λ_ _ _ H _ I h=>Constant_none ⟨.non,H,I,rfl,h⟩
theorem j9 {x j pos}:PE X (.Constant (.str x) j pos) (tC (.str x)):=λ_ _ _ H _ I h=>Calls.Constant_str ⟨.str x,H,I.tok _,⟨_,rfl⟩,h⟩
def Gl (X:Cx)(x:Str):Prop:=X.env.kindOf x=some .globalImplicit
theorem cV {E:Value->Shared->Prop}{pins:List (Addr×Obj)}{s:Shared}{σ:St}{H:Hp}{x:Str}{u:Value}{pos:Pos}{Q:Value->Shared->Prop}(I:j7 X pins σ H s)(hg:Gl X x)(hm:X.mg x=some u)(h:Q u s)
  (hd:(x==("__debug__" : Str))=false:=by decide):wpAny (model X.prog X.w) X.A (eval (.Name x pos) X.env) Q E s :=
 Calls.Name_function_global I.ok.kind hg (Calls.loadGlobal_global (by rw[I.ok.glob];exact I.mod.glob.keeps I.bk) hm h) hd
theorem jl {E:Value->Shared->Prop}{pins:List (Addr×Obj)}{s:Shared}{σ:St}{H:Hp}{x:Str}{u:Value}{pos:Pos}{Q:Value->Shared->Prop}(I:j7 X pins σ H s)(hg:Gl X x)(hm:X.mg x=none)(hv:bootBuiltins x=some u)(h:Q u s)
  (hn:x≠"__name__":=by decide) (hd:(x==("__debug__" : Str))=false:=by decide):wpAny (model X.prog X.w) X.A (eval (.Name x pos) X.env) Q E s:=by
 obtain⟨mb,h1,h2⟩:=I.mod.blt;exact Calls.Name_function_global I.ok.kind hg (Calls.loadGlobal_builtin (by rw[I.ok.glob];exact I.mod.glob.keeps I.bk) hm (by rw[I.ok.blt];exact h1.keeps I.bk) ((h2 x hn).trans hv) h) hd
theorem C6 {x:Str}{v:V}{u:Value}{pos:Pos}(hg:Gl X x)(hm:X.mg x=some u)(r:A0 v u)(hd:(x==("__debug__" : Str))=false:=by decide):PE X (.Name x pos) (tC v) :=
 λ_ _ _ H _ I h=>cV I hg hm ⟨v,H,I,r,h⟩ hd
variable {a b:Expr}{ta tb:TE}{pos:Pos}
def PC (X:Cx)(op:CmpOp)(a b:Expr)(t:TE):Prop :=
 ∀ (pins:List (Addr×Obj)) (s:Shared) (σ:St) (H:Hp) (Q:VK),j7 X pins σ H s->t σ H Q ->
  wpAny (model X.prog X.w) X.A (eval a X.env) (λv s₁=>wpAny (model X.prog X.w) X.A (eval b X.env) (λu s₂=>wpAny (model X.prog X.w) X.A (compareOp op v u) (EP X pins σ Q) X.xe s₂) X.xe s₁) X.xe s
def tB (t:TE):TT:=λσ H Q=>t σ H λx H1=>∃ c,x=.bl c/\Q c H1
theorem wK {op:CmpOp}{t:TE}(h:PC X op a b t)(h1:behindInMarks op b=false:=by first|exact nobehind _ (by decide) (by decide)|rfl):PT X (.Compare a [op] [b] pos) (tB t):=by
 intro pins s σ H Q I hw;refine wpAny_isTrue_Compare1 (B9 (h pins s σ H _ I hw) λv s1 h1=>B9 h1 λu s2 h2=>B9 h2 λc s3 ⟨x,H1,I1,r1,q1⟩=>?_) h1;obtain⟨d,rfl,q⟩:=q1;cases r1;exact wpAny_truthy_bool ⟨H1,I1,q⟩
theorem E8 {e:Expr}{t:TE}(h:PE X e t)(he:∀ whole,isTrue e X.env whole=(do let v ← whole;standAt e.pos;holding [v] (truthy v)):=by intro _;rfl):PT X e (tB t):=by
 intro pins s σ H Q I hw;refine isTrue_plain (B9 (h pins s σ H _ I hw) λv s1 ⟨x,H1,I1,r1,q1⟩=>?_) (he _);obtain⟨d,rfl,q⟩:=q1;cases r1;exact wpAny_truthy_bool ⟨H1,I1,q⟩
variable {tA tB':TT}{rest:List Expr}
def Gu (t u:TT):TT:=λσ H Q=>t σ H λc H1=>if c=true then u σ H1 Q else Q false H1
def Hs (t u:TT):TT:=λσ H Q=>t σ H λc H1=>if c=true then Q true H1 else u σ H1 Q
def Gj (t:TT):TT:=λσ H Q=>t σ H λc H1=>Q (!c) H1
theorem ib (ha:PT X a tA):PW X (.BoolOp .And [a] pos) tA:=by
 intro wh pins s σ H Q I h;refine isTrue_and (B9 (ha pins s σ H Q I h) λc s1 e=>?_);cases c with
 |true=>exact isTrue_and_nil e
 |false=>exact e
theorem iP (ha:PT X a tA):PW X (.BoolOp .Or [a] pos) tA:=by
 intro wh pins s σ H Q I h;refine isTrue_or (B9 (ha pins s σ H Q I h) λc s1 e=>?_);cases c with
 |false=>exact isTrue_or_nil e
 |true=>exact e
theorem lR (ha:PT X a tA)(hb:PW X (.BoolOp .And (b::rest) pos) tB'):PW X (.BoolOp .And (a::b::rest) pos) (Gu tA tB'):=by
 intro wh pins s σ H Q I h;refine isTrue_and (B9 (ha pins s σ H _ I h) λc s1 ⟨H1,I1,q1⟩=>?_);cases c with
 |true=>exact hb wh pins s1 σ H1 Q I1 q1
 |false=>exact⟨H1,I1,q1⟩
theorem ki (ha:PT X a tA)(hb:PW X (.BoolOp .Or (b::rest) pos) tB'):PW X (.BoolOp .Or (a::b::rest) pos) (Hs tA tB'):=by
 intro wh pins s σ H Q I h;refine isTrue_or (B9 (ha pins s σ H _ I h) λc s1 ⟨H1,I1,q1⟩=>?_);cases c with
 |true=>exact⟨H1,I1,q1⟩
 |false=>exact hb wh pins s1 σ H1 Q I1 q1
theorem iQ (ha:PT X a tA):PT X (.UnaryOp .Not a pos) (Gj tA):=by
 intro pins s σ H Q I h;exact isTrue_not (ha pins s σ H (λc H1=>Q (!c) H1) I h)
def EV (ta tb:TE):TE:=λσ H Q=>ta σ H λx H1=>∃ c,x=.bl c/\if c=true then tb σ H1 Q else Q (.bl false) H1
def EN (ta tb:TE):TE:=λσ H Q=>ta σ H λx H1=>∃ c,x=.bl c/\if c=true then Q (.bl true) H1 else tb σ H1 Q
def EO (ta:TE):TE:=λσ H Q=>ta σ H λx H1=>∃ c,x=.bl c/\Q (.bl (!c)) H1
theorem lU {op}{t:TE}(h:PE X a t):PE X (.BoolOp op [a] pos) t:=λpins s σ H Q I hw=>BoolOp_one (h pins s σ H Q I hw)
theorem Cg (ha:PE X a ta)(hb:PE X (.BoolOp .And (b::rest) pos) tb):PE X (.BoolOp .And (a::b::rest) pos) (EV ta tb):=by
 intro pins s σ H Q I h;refine BoolOp_and (B9 (ha pins s σ H _ I h) λv s1 ⟨x,H1,I1,r1,q1⟩=>?_);obtain⟨c,rfl,q1⟩:=q1;cases r1;refine wpAny_truthy_bool ?_;cases c with
 |true=>exact hb pins s1 σ H1 Q I1 q1
 |false=>exact⟨.bl false,H1,I1,rfl,q1⟩
theorem rQ (ha:PE X a ta)(hb:PE X (.BoolOp .Or (b::rest) pos) tb):PE X (.BoolOp .Or (a::b::rest) pos) (EN ta tb):=by
 intro pins s σ H Q I h;refine BoolOp_or (B9 (ha pins s σ H _ I h) λv s1 ⟨x,H1,I1,r1,q1⟩=>?_);obtain⟨c,rfl,q1⟩:=q1;cases r1;refine wpAny_truthy_bool ?_;cases c with
 |false=>exact hb pins s1 σ H1 Q I1 q1
 |true=>exact⟨.bl true,H1,I1,rfl,q1⟩
theorem Cd (ha:PE X a ta):PE X (.UnaryOp .Not a pos) (EO ta):=by
 intro pins s σ H Q I h;refine UnaryOp_ (B9 (ha pins s σ H _ I h) λv s1 ⟨x,H1,I1,r1,q1⟩=>?_);obtain⟨c,rfl,q1⟩:=q1;cases r1;exact not_of (wpAny_truthy_bool ⟨.bl (!c),H1,I1,rfl,q1⟩)
def Ht (t:TT)(ta tb:TE):TE:=λσ H Q=>t σ H λc H1=>if c=true then ta σ H1 Q else tb σ H1 Q
theorem nM {c:Expr}(hc:PT X c tA)(ha:PE X a ta)(hb:PE X b tb):PE X (.IfExp c a b pos) (Ht tA ta tb):=by
 intro pins s σ H Q I h;refine wpAny_IfExp (B9 (hc pins s σ H _ I h) λd s1 ⟨H1,I1,q1⟩=>?_);cases d with
 |true=>exact ha pins s1 σ H1 Q I1 q1
 |false=>exact hb pins s1 σ H1 Q I1 q1
end
def C9 (K:W.Frag)(H:Hp)(a:Addr)(xs:List V):Prop :=
 Rd H a (.lst xs) \/
  ∃ (o:Obj) (its:Array Value) (n:Nat),K.lookup a=some o/\o.cls=.type "list"/\o.dict=none/\o.data=.seq its n/\its.size<=sizeLine/\x9 xs its.toList
def W2 (K:W.Frag)(H:Hp)(a:Addr)(xs:List V):Prop :=
 Rd H a (.tup xs) \/
  ∃ (o:Obj) (its:Array Value) (n:Nat),K.lookup a=some o/\o.cls=.type "tuple"/\o.data=.seq its n/\its.size<=sizeLine/\x9 xs its.toList
def Ew:Value->Option V
 |.none=>some .non
 |.bool b=>some (.bl b)
 |.int i _=>some (.int i)
 |.str x _=>some (.str x)
 |.bytes b _=>some (.byt b)
 |.float b _=>some (.flt b)
 |.ref a=>some (.ref a)
 |.type n=>some (.ty n)
 |_=>none
theorem A0.abs {x:V}{u:Value}(r:A0 x u):Ew u=some x:=by
 cases x with
 |non=>cases r;rfl
 |bl _=>cases r;rfl
 |int _=>obtain⟨t,rfl⟩:=r;rfl
 |str _=>obtain⟨t,rfl⟩:=r;rfl
 |byt _=>obtain⟨t,rfl⟩:=r;rfl
 |flt _=>obtain⟨t,rfl⟩:=r;rfl
 |ref _=>cases r;rfl
 |ty _=>cases r;rfl
theorem A0.inj {x y:V}{u:Value}(r:A0 x u)(q:A0 y u):x=y:=Option.some.inj (r.abs.symm.trans q.abs)
theorem x9.inj:∀ {xs ys:List V}{us:List Value},x9 xs us->x9 ys us->xs=ys
 |_,_,_,.nil,.nil=>rfl
 |_,_,_,.cons r t,.cons r' t'=>by rw[r.inj r',x9.inj t t']
section
variable {X:Cx}{pins:List (Addr×Obj)}{σ:St}{H:Hp}{s:Shared}{a:Addr}{xs ys:List V}
theorem C9.of {K:W.Frag}(h:H a=some (.lst xs)):C9 K H a xs:=.inl (.inl h)
theorem W2.of {K:W.Frag}(h:H a=some (.tup xs)):W2 K H a xs:=.inl (.inl h)
theorem j7.list (I:j7 X pins σ H s)(h:C9 X.K H a xs):∃ its:List Value,x9 xs its/\PlainL s.heap a its.toArray/\xs.length<=sizeLine:=by
 rcases h with h|⟨o,its,n,hk,hc,hd,hs,hz,r⟩
 ·obtain⟨z,its,n,r,e⟩:=h.ok I.hok;exact⟨its,r,⟨_,n,e,rfl,rfl,rfl⟩,z⟩
 ·refine⟨its.toList,r,⟨o,n,I.kIn a o hk,hc,hd,by simpa using hs⟩,?_⟩;have e:=r.length;simp only[Array.length_toList]at e;omega
theorem j7.tuple (I:j7 X pins σ H s)(h:W2 X.K H a xs):∃ its:List Value,x9 xs its/\IsTup s.heap a its.toArray/\xs.length<=sizeLine:=by
 rcases h with h|⟨o,its,n,hk,hc,hs,hz,r⟩
 ·obtain⟨z,its,r,p⟩:=h.ok I.hok;exact⟨its,r,p,z⟩
 ·refine⟨its.toList,r,⟨o,I.kIn a o hk,hc,n,by simpa using hs⟩,?_⟩;have e:=r.length;simp only[Array.length_toList]at e;omega
theorem j7.list_inj (I:j7 X pins σ H s)(h:C9 X.K H a xs)(h':C9 X.K H a ys):xs=ys:=by
 obtain⟨its,r,⟨o,n,e,_,_,d⟩,_⟩:=I.list h;obtain⟨its',r',⟨o',n',e',_,_,d'⟩,_⟩:=I.list h';rw[e]at e';cases e';rw[d]at d';injection d' with d1 _;have:its=its':=by simpa using congrArg Array.toList d1
 subst this;exact r.inj r'
theorem j7.tuple_inj (I:j7 X pins σ H s)(h:W2 X.K H a xs)(h':W2 X.K H a ys):xs=ys:=by
 obtain⟨its,r,⟨o,e,_,n,d⟩,_⟩:=I.tuple h;obtain⟨its',r',⟨o',e',_,n',d'⟩,_⟩:=I.tuple h';rw[e]at e';cases e';rw[d]at d';injection d' with d1 _;have:its=its':=by simpa using congrArg Array.toList d1
 subst this;exact r.inj r'
end
section
variable {X:Cx}{st:Stmt}{rest:List Stmt}{t u:TS}{e:Expr}{te:TE}{pos:Pos}
def AM:TS:=λD σ H=>D.nx σ H
def Gi (t u:TS):TS:=λD σ H=>t { D with nx:=u D } σ H
theorem l6:pJ X [] AM:=λ_ _ σ H _ I h=>wpAny_execs_nil ⟨σ,H,I,h⟩
theorem c8 (h1:PS X st t)(h2:pJ X rest u):pJ X (st::rest) (Gi t u):=by
 intro pins s σ H D I h;refine wpAny_execs_cons (B9 (h1 pins s σ H { D with nx:=u D } I h) λf s1 q=>?_);cases f with
 |next =>
  obtain⟨σ',H',I',q⟩:=q;exact h2 pins s1 σ' H' D I' q
 |ret v=>exact q
 |brk=>exact q
 |cont=>exact q
theorem d7 (h1:PS X st t):pJ X [st] t:=by
 intro pins s σ H D I h;refine wpAny_execs_cons (B9 (h1 pins s σ H D I h) λf s1 q=>?_);cases f with
 |next=>exact wpAny_execs_nil q
 |ret v=>exact q
 |brk=>exact q
 |cont=>exact q
def BD:TS:=λD σ H=>D.bk σ H
theorem wL:PS X (.Break pos) BD:=λ_ _ σ H _ I h=>wpAny_Break ⟨σ,H,I,h⟩
theorem j7.quiet {pins:List (Addr×Obj)}{σ:St}{H:Hp}{s:Shared}(I:j7 X pins σ H s):interactive X.env=false:=by simp[interactive,I.ok.kind]
def AO (te:TE):TS:=λD σ H=>te σ H λ_ H1=>D.nx σ H1
theorem j8 (he:PE X e te)(hs:swapsWith e none pos.line X.env=pure false:=by rfl):PS X (.Expr e pos) (AO te):=by
 intro pins s σ H D I h;exact wpAny_Expr_any (B9 (he pins s σ H _ I h) λv s1 ⟨x,H1,I1,r1,q1⟩=>⟨σ,H1,I1,q1⟩) I.quiet hs
def tI (te:TE):TS:=λD σ H=>te σ H D.rt
theorem j1 (he:PE X e te):PS X (.Return (some e) pos) (tI te):=by
 intro pins s σ H D I h;exact wpAny_Return_some (B9 (he pins s σ H _ I h) λv s1 ⟨x,H1,I1,r1,q1⟩=>⟨x,σ,H1,I1,r1,q1⟩)
def ES (c:TT)(t u:TS):TS:=λD σ H=>c σ H λb H1=>if b=true then t D σ H1 else u D σ H1
theorem y2 {c:Expr}{a b:List Stmt}{tc:TT}(hc:PT X c tc)(ha:pJ X a t)(hb:pJ X b u):PS X (.If c a b pos) (ES tc t u):=by
 intro pins s σ H D I h;refine wpAny_If (B9 (hc pins s σ H _ I h) λd s1 ⟨H1,I1,q1⟩=>?_);cases d with
 |true=>exact ha pins s1 σ H1 D I1 q1
 |false=>exact hb pins s1 σ H1 D I1 q1
end
abbrev TG:=V->St->Hp->(St->Hp->Prop)->Prop
abbrev Ez:=List V->St->Hp->(St->Hp->Prop)->Prop
def PG (X:Cx)(target:Expr)(t:TG):Prop :=
 ∀ (pins:List (Addr×Obj)) (s:Shared) (σ:St) (H:Hp) (v:V) (u:Value) (Q:St->Hp->Prop),j7 X pins σ H s->A0 v u->t v σ H Q ->
  wpAny (model X.prog X.w) X.A (assign target X.env u) (λ_ s'=>∃ σ' H',j7 X pins σ' H' s'/\Q σ' H') X.xe s
def Ge (X:Cx)(ts:List Expr)(t:Ez):Prop :=
 ∀ (pins:List (Addr×Obj)) (s:Shared) (σ:St) (H:Hp) (vs:List V) (us:List Value) (Q:St->Hp->Prop),j7 X pins σ H s->x9 vs us->t vs σ H Q ->
  wpAny (model X.prog X.w) X.A (assignInOrder ((assignEach ts X.env).map (·.2)) us) (λ_ s'=>∃ σ' H',j7 X pins σ' H' s'/\Q σ' H') X.xe s
abbrev Gd:=V->V->Hp->VK->Prop
def Hn (X:Cx)(op:Operator)(t:Gd):Prop :=
 ∀ (pins:List (Addr×Obj)) (s:Shared) (σ:St) (H:Hp) (x y:V) (v u:Value) (Q:VK),j7 X pins σ H s->A0 x v->A0 y u->t x y H Q ->
  wpAny (model X.prog X.w) X.A (inplaceOp op v u) (EP X pins σ Q) X.xe s
section
variable {X:Cx}{pos:Pos}
def dw (i:Nat):TG:=λv σ H Q=>Q (σ.set i (some v)) H
theorem y9 {i:Nat}{x:Str}(hN:X.N.Nodup)(hi:X.N[i]?=some x)(hx:Ga X.env.scope x)(hf:X.fn x=true\/X.env.scope.names.lookup x=some .local:=by first|exact .inl rfl|exact .inr rfl|assumption):PG X (.Name x pos) (dw i):=by
 intro pins s σ H v u Q I r h;exact wpAny_assign_Name (iA I hN hi hx r (λs' I'=>⟨_,H,I',h⟩) hf)
def Ef:Ez:=λvs σ H Q=>vs=[]/\Q σ H
def oZ (t:TG)(u:Ez):Ez:=λvs σ H Q=>∃ v r,vs=v::r/\t v σ H λσ' H'=>u r σ' H' Q
theorem ic:Ge X [] Ef:=by
 intro pins s σ H vs us Q I r h;obtain⟨e,h⟩:=h;subst e;cases r;exact assignInOrder_nil ⟨σ,H,I,h⟩
theorem P3 {e:Expr}{es:List Expr}{t:TG}{u:Ez}(h1:PG X e t)(h2:Ge X es u)
  (hs:(assignEach (e::es) X.env).map (·.2)=assign e X.env::(assignEach es X.env).map (·.2):=by rfl):Ge X (e::es) (oZ t u):=by
 intro pins s σ H vs us Q I r h;obtain⟨v,vr,e1,h⟩:=h;subst e1;cases r with
 |cons r rr =>
  rw[hs];refine assignInOrder_cons (B9 (h1 pins s σ H _ _ _ I r h) λ_ s1 ⟨σ1,H1,I1,q1⟩=>?_);exact h2 pins s1 σ1 H1 _ _ Q I1 rr q1
def Ee (K:W.Frag)(n:Nat)(t:Ez):TG:=λv σ H Q=>∃ a xs,v=.ref a/\W2 K H a xs/\xs.length=n/\t xs σ H Q
theorem lT {es:List Expr}{k:Nat}{t:Ez}{n:Nat}(hc:X.calm=true)(h:Ge X es t)
  (hn:(assignEach es X.env).length=n:=by rfl) (hst:(assignEach es X.env).findIdx? (·.1)=none:=by rfl):PG X (.Tuple es k pos) (Ee X.K n t):=by
 intro pins s σ H v u Q I r hw;obtain⟨a,xs,e1,hq,hl,hw⟩:=hw;subst e1;cases r;obtain⟨its,rv,ht,hz⟩:=I.tuple hq;refine assign_Tuple_tuple (I.ok.hd hc) ht (by simp[hn,<-hl,rv.length]) hst λh' hx=>?_;have I1:j7 X pins σ H { s with heap:=h' }:=I.kept (t':=s.toks) λb o e=>hx b o (Nat.ne_of_lt (Heap.lt_size e)) e;exact h pins _ σ H xs _ Q I1 (by simpa using rv) hw
def BE (te:TE)(g:TG):TS:=λD σ H=>te σ H λx H1=>g x σ H1 D.nx
theorem i7 {i:Nat}{x:Str}{e:Expr}{te:TE}{pos':Pos}(hN:X.N.Nodup)(hi:X.N[i]?=some x)(hx:Ga X.env.scope x)(he:PE X e te)(hs:swapsWith e (some (.Name x pos')) pos.line X.env=pure false:=by rfl)(hf:X.fn x=true\/X.env.scope.names.lookup x=some .local:=by first|exact .inl rfl|exact .inr rfl|assumption) :
  PS X (.Assign [.Name x pos'] e pos) (BE te (dw i)):=by
 intro pins s σ H D I h;refine wpAny_Assign_Name (B9 (he pins s σ H _ I h) λv s1 ⟨y,H1,I1,r1,q1⟩=>?_) hs;exact iA I1 hN hi hx r1 (λs2 I2=>⟨_,H1,I2,q1⟩) hf
def EU (i:Nat)(te:TE)(ti:Gd):TS:=λD σ H=>∃ x,σ[i]?=some (some x)/\te σ H λy H1=>ti x y H1 λz H2=>D.nx (σ.set i (some z)) H2
theorem ck {i:Nat}{x:Str}{e:Expr}{te:TE}{op:Operator}{ti:Gd}{pos':Pos}(hN:X.N.Nodup)(hi:X.N[i]?=some x)(hx:Ga X.env.scope x)(he:PE X e te)(ho:Hn X op ti)(hf:X.fn x=true\/X.env.scope.names.lookup x=some .local:=by first|exact .inl rfl|exact .inr rfl|assumption) :
  PS X (.AugAssign (.Name x pos') op e pos) (EU i te ti):=by
 intro pins s σ H D I h;obtain⟨v,e1,h⟩:=h;obtain⟨m,hn,hl⟩:=I.loc;have vis:Ex X.env.scope x:=by rcases hx with k|k;exact .inl k;exact .inr (.inl k)
 obtain⟨u,r,l⟩:=hl i x v hi e1 vis;refine wpAny_AugAssign_Name ?_;have go:wpAny (model X.prog X.w) X.A (eval e X.env) (λw s₂=>wpAny (model X.prog X.w) X.A (inplaceOp op u w) (λr s₃=>wpAny (model X.prog X.w) X.A (storeName X.env x r) (λ_=>SP X pins D .next) X.xe s₃) X.xe s₂) X.xe s:=by
  refine B9 (he pins s σ H _ I h) λw s1 ⟨y,H1,I1,r1,q1⟩=>?_;refine B9 (ho pins s1 σ H1 v y u w _ I1 r r1 q1) λz s2 ⟨zv,H2,I2,r2,q2⟩=>?_;exact iA I2 hN hi hx r2 (λs3 I3=>⟨_,H2,I3,q2⟩) hf
 rcases l with⟨hk,hm⟩|⟨hk,c,hc,hcell⟩
 ·exact wpAny_loadName_local I.ok.kind hk hn hm go
 ·rcases hk with hk|hk
  ·exact wpAny_loadName_cell I.ok.kind hk hc hcell go
  ·rcases hx with k|k
   ·have:X.env.scope.names.lookup x=some .free:=hk;rw[k]at this;cases this
   ·have:X.env.scope.names.lookup x=some .free:=hk;rw[k]at this;cases this
def Hj (f:Int->Int->Int):Gd:=λx y H Q=>∃ i j,x=.int i/\y=.int j/\Q (.int (f i j)) H
theorem qz:Hn X .Add (Hj λi j=>i+j):=by
 intro pins s σ H x y v u Q I r1 r2 h;obtain⟨i,j,e1,e2,q⟩:=h;subst e1;subst e2;obtain⟨t,rfl⟩:=r1;obtain⟨t',rfl⟩:=r2;exact iadd_int ⟨.int _,H,I.tok _,⟨_,rfl⟩,q⟩
def vN (c:TT)(tb:TS):TS:=λD σ H=>∃ W:Nat->St->Hp->Prop,(∃ m,W m σ H)/\∀ m σ H,W m σ H ->
 c σ H λb H1=>if b=true then ∃ N:St->Hp->Prop,(∀ σ' H',N σ' H'->∃ m',m'<m/\W m' σ' H')/\tb { D with nx:=N,ct:=N,bk:=D.nx } σ H1 else D.nx σ H1
theorem Z5 {c:Expr}{body:List Stmt}{tc:TT}{tb:TS}(hp:PassesOwn (model X.prog X.w) X.A X.env X.xe)(hc:PT X c tc)(hb:pJ X body tb):PS X (.While c body [] pos) (vN tc tb):=by
 intro pins s σ H D I h;obtain⟨W,⟨m0,w0⟩,turn⟩:=h;refine wpAny_While (codeAny_whileLoop (λn s'=>∃ σ' H',j7 X pins σ' H' s'/\W n σ' H') ?_ m0 ⟨σ,H,I,w0⟩);rintro n s1 ⟨σ1,H1,I1,w1⟩;refine wpAny_passesOwn hp (B9 (hc pins s1 σ1 H1 _ I1 (turn n σ1 H1 w1)) λb s2 ⟨H2,I2,q2⟩=>?_);cases b with
 |true =>
  obtain⟨N,hN,q2⟩:=q2;rw[if_pos rfl];refine wpAny_passesOwn hp (B9 (hb pins s2 σ1 H2 _ I2 q2) λf s3 q3=>?_);cases f with
  |next =>
   obtain⟨σ3,H3,I3,n3⟩:=q3;obtain⟨m',hm,w3⟩:=hN σ3 H3 n3;exact⟨m',hm,σ3,H3,I3,w3⟩
  |cont =>
   obtain⟨σ3,H3,I3,n3⟩:=q3;obtain⟨m',hm,w3⟩:=hN σ3 H3 n3;exact⟨m',hm,σ3,H3,I3,w3⟩
  |brk=>exact q3
  |ret v=>exact q3
 |false =>
  rw[if_neg Bool.false_ne_true];exact wpAny_execs_nil ⟨σ1,H2,I2,q2⟩
end
structure It where
 go:Nat->Hp->Prop
 yld:Nat->Hp->V->Hp->Prop
 stop:Nat->Hp->Prop
def bL (X:Cx)(pins:List (Addr×Obj))(H:Hp)(b:Addr):Prop :=
 H b=none/\b≠X.env.locals/\b∉X.fs/\(b∈X.ex\/X.s_0.heap.objs.size<=b)/\(∀ x c,X.env.cells.lookup x=some c->c≠b)/\∀ p∈X.pn++pins,p.1≠b
theorem j7.fpOk {X:Cx}{pins:List (Addr×Obj)}{σ:St}{H H':Hp}{s:Shared}{b:Addr}(I:j7 X pins σ H s)(hb:s.heap.objs.size<=b)(hn:H' b=none):bL X pins H' b:=by
 refine⟨hn,Nat.ne_of_gt (Nat.lt_of_lt_of_le I.lt hb),I.nofs hb,.inr (Nat.le_trans I.sz hb),λx c e z=>?_,λp hp z=>?_⟩
 ·obtain⟨v,q⟩:=I.cell x c e;exact absurd (Nat.lt_of_lt_of_le q.lt (by rw[z];exact hb)) (Nat.lt_irrefl _)
 ·exact absurd (Nat.lt_of_lt_of_le (Heap.lt_size (I.pin p hp).1) (by rw[z];exact hb)) (Nat.lt_irrefl _)
structure uQ (P:Program)(w:World)(K:W.Frag)(tg:Expr)(J:It)(fp:List Addr)(it:Addr)(tn:Nat->Heap->Prop):Prop where
 mem:it∈fp
 obj:∀ i h,tn i h->∀ b∈fp,∃ o,h.get? b=some o/\∀ v,o.data≠.cell v
 keep:∀ i h h',tn i h->(∀ b∈fp,∀ o,h.get? b=some o->h'.get? b=some o)->tn i h'
 item:∀ (X:Cx),X.prog=P->X.w=w->X.K=K->X.calm=true->∀ (i:Nat) (pins:List (Addr×Obj)) (s:Shared) (σ:St) (H:Hp) (E:Value->Shared->Prop),j7 X pins σ H s->(∀ b∈fp,bL X pins H b)->tn i s.heap->J.go i H ->
  wpAny (model P w) X.A (pyNext (.ref it)) (λr s1=>∃ u,r=some u /\
   wpAny (model P w) X.A (letOwnedTupleGo tg (.ref it) u) (λ_ s2=>∃ x H',j7 X pins σ H' s2/\A0 x u/\J.yld i H x H'/\tn (i+1) s2.heap/\∀ b∈fp,H' b=none) E s1) E s
 done:∀ (X:Cx),X.prog=P->X.w=w->X.K=K->X.calm=true->∀ (i:Nat) (pins:List (Addr×Obj)) (s:Shared) (σ:St) (H:Hp) (E:Value->Shared->Prop),j7 X pins σ H s->(∀ b∈fp,bL X pins H b)->tn i s.heap->J.stop i H ->
  wpAny (model P w) X.A (pyNext (.ref it)) (λr s1=>r=none/\j7 X pins σ H s1) E s
 self:∀ (A:Around) (i:Nat) (s:Shared) (Q:Value->Shared->Prop) (E:Value->Shared->Prop),tn i s.heap->Q (.ref it) s->wpAny (model P w) A (pyIter (.ref it)) Q E s
abbrev TI:=St->Hp->(It->Hp->Prop)->Prop
def Ho (X:Cx)(pins:List (Addr×Obj))(σ:St)(tg:Expr)(R:It->Hp->Prop)(itv:Value)(s2:Shared):Prop :=
 ∃ (it:Addr) (fp:List Addr) (tn:Nat->Heap->Prop) (J:It) (H':Hp),itv=.ref it/\j7 X pins σ H' s2/\uQ X.prog X.w X.K tg J fp it tn/\tn 0 s2.heap/\(∀ b∈fp,bL X pins H' b)/\R J H'
def PI (X:Cx)(tg iter:Expr)(wi:TI):Prop :=
 ∀ (pins:List (Addr×Obj)) (s:Shared) (σ:St) (H:Hp) (R:It->Hp->Prop),j7 X pins σ H s->wi σ H R ->
  wpAny (model X.prog X.w) X.A (eval iter X.env) (λv s1=>wpAny (model X.prog X.w) X.A (pyIter v) (Ho X pins σ tg R) X.xe s1) X.xe s
theorem xY {M : Model} {A : Around} {E : Value → Shared → Prop} {s : Shared} {tg : Expr} {it : Addr} {u : Value} {o : Obj} {n : String} {vs : Array Value} {Q : Unit → Shared → Prop} (ho : s.heap.get? it = some o) (hc : o.cls = .type n) (hd : o.data = .fields vs)
    (hn : ["enumerate", "zip", "dict_itemiterator", "dict_reverseitemiterator", "odict_iterator", "itertools.zip_longest", "itertools.pairwise"].contains n = false) (hQ : Q () s) : wpAny M A (letOwnedTupleGo tg (.ref it) u) Q E s := by
  unfold letOwnedTupleGo;cases tg <;> first
    |exact wpAny_pure hQ
    | (cases u <;> first
        |exact wpAny_pure hQ
        | (refine wpAny_bind (wpAny_load ho ?_)
           rw[hc, hd];show wpAny M A (if(["enumerate", "zip", "dict_itemiterator", "dict_reverseitemiterator", "odict_iterator", "itertools.zip_longest", "itertools.pairwise"].contains n&&vs[0]?==some (rawInt _)) = true then _ else _) Q E s;rw[if_neg (by intro h; rw[hn, Bool.false_and]at h; cases h)];exact wpAny_pure hQ))
def Br (K:W.Frag)(a:Addr):It :=
 ⟨λi H=>∃ xs x,C9 K H a xs/\xs[i]?=some x,λi H x H'=>H'=H/\∀ xs,C9 K H a xs->xs[i]?=some x,λi H=>∃ xs,C9 K H a xs/\xs.length<=i⟩
def Gb (K:W.Frag)(a:Addr):It :=
 ⟨λi H=>∃ xs x,W2 K H a xs/\xs[i]?=some x,λi H x H'=>H'=H/\∀ xs,W2 K H a xs->xs[i]?=some x,λi H=>∃ xs,W2 K H a xs/\xs.length<=i⟩
theorem tw {P:Program}{w:World}{K:W.Frag}{tg:Expr}(a it:Addr):uQ P w K tg (Br K a) [it] it (λi h=>h.IsListIter it a i) where
 mem:=by simp
 obj:=λi h st b hb=>by
  have e:b=it:=by simpa using hb
  subst e;obtain⟨o,e,c,d⟩:=st;exact⟨o,e,λv z=>by rw[d]at z;cases z⟩
 keep:=λi h h' st k=>st.at λo e=>k it (by simp) o e
 item:=by
  intro X hP hw hK hc i pins s σ H E I hf st hg;subst hP hw hK;obtain⟨xs,x,hq,hx⟩:=hg;obtain⟨its,rv,p,hz⟩:=I.list hq;obtain⟨u,hu,ru⟩:=rv.get hx;obtain⟨f0,f1,f2,f3,f4,f5⟩:=hf it (by simp);refine wpAny_pyNext_list_item st p.isList (x:=u) (by simpa using hu) λh' st' sb=>?_;have I1:j7 X pins σ H { s with heap:=h' }:=I.turned (t':=s.toks) (λb o hb e=>(sb.2 b hb).trans e) f0 f1 f3 f4 f5;obtain⟨o,e,c,d⟩:=id st';exact⟨u,rfl,xY (s:={ s with heap:=h' }) e c d (by decide) ⟨x,H,I1,ru,⟨rfl,λys hy=>by rw[I.list_inj hy hq];exact hx⟩,st',λb hb=>(hf b hb).1⟩⟩
 done:=by
  intro X hP hw hK hc i pins s σ H E I hf st hg;subst hP hw hK;obtain⟨xs,hq,hx⟩:=hg;obtain⟨its,rv,p,hz⟩:=I.list hq;obtain⟨f0,f1,f2,f3,f4,f5⟩:=hf it (by simp);have hl:=rv.length;exact wpAny_pyNext_list_end (I.ok.hd hc) st p.isList (by simp;omega) λh' eb=>⟨rfl,I.turned (t':=s.toks) (λb o hb e=>eb b o hb e) f0 f1 f3 f4 f5⟩
 self:=λ_ _ _ _ _ st h=>wpAny_pyIter_listiter st h
theorem pN {P:Program}{w:World}{K:W.Frag}{tg:Expr}(a it:Addr):uQ P w K tg (Gb K a) [it] it (λi h=>h.IsTupleIter it a i) where
 mem:=by simp
 obj:=λi h st b hb=>by
  have e:b=it:=by simpa using hb
  subst e;obtain⟨o,e,c,d⟩:=st;exact⟨o,e,λv z=>by rw[d]at z;cases z⟩
 keep:=λi h h' st k=>st.at λo e=>k it (by simp) o e
 item:=by
  intro X hP hw hK hc i pins s σ H E I hf st hg;subst hP hw hK;obtain⟨xs,x,hq,hx⟩:=hg;obtain⟨its,rv,p,hz⟩:=I.tuple hq;obtain⟨u,hu,ru⟩:=rv.get hx;obtain⟨f0,f1,f2,f3,f4,f5⟩:=hf it (by simp);refine wpAny_pyNext_tuple_item st (show s.heap.IsTuple a its.toArray from p) (x:=u) (by simpa using hu) λh' st' sb=>?_;have I1:j7 X pins σ H { s with heap:=h' }:=I.turned (t':=s.toks) (λb o hb e=>(sb.2 b hb).trans e) f0 f1 f3 f4 f5;obtain⟨o,e,c,d⟩:=id st';exact⟨u,rfl,xY (s:={ s with heap:=h' }) e c d (by decide) ⟨x,H,I1,ru,⟨rfl,λys hy=>by rw[I.tuple_inj hy hq];exact hx⟩,st',λb hb=>(hf b hb).1⟩⟩
 done:=by
  intro X hP hw hK hc i pins s σ H E I hf st hg;subst hP hw hK;obtain⟨xs,hq,hx⟩:=hg;obtain⟨its,rv,p,hz⟩:=I.tuple hq;obtain⟨f0,f1,f2,f3,f4,f5⟩:=hf it (by simp);have hl:=rv.length;exact wpAny_pyNext_tuple_end (I.ok.hd hc) st (show s.heap.IsTuple a its.toArray from p) (by simp;omega) λh' eb=>⟨rfl,I.turned (t':=s.toks) (λb o hb e=>eb b o hb e) f0 f1 f3 f4 f5⟩
 self:=λ_ _ _ _ _ st h=>wpAny_pyIter_tupleiter st h
section
variable {X:Cx}{tg:Expr}
def sx (K:W.Frag)(tl:TE):TI:=λσ H R=>tl σ H λx H1=>∃ a,x=.ref a/\(∃ xs,C9 K H1 a xs)/\R (Br K a) H1
def GH (K:W.Frag)(tl:TE):TI:=λσ H R=>tl σ H λx H1=>∃ a,x=.ref a/\(∃ xs,W2 K H1 a xs)/\R (Gb K a) H1
theorem K9 {l:Expr}{tl:TE}(hl:PE X l tl):PI X tg l (sx X.K tl):=by
 intro pins s σ H R I h;refine B9 (hl pins s σ H _ I h) λv s1 ⟨x,H1,I1,r1,q1⟩=>?_;obtain⟨a,e,⟨xs,hq⟩,q⟩:=q1;subst e;cases r1;obtain⟨its,rv,p,hz⟩:=I1.list hq;refine wpAny_pyIter_list p.isList ?_;refine⟨s1.heap.objs.size,[s1.heap.objs.size],_,_,H1,rfl,I1.kept (t':=s1.toks) λb o e=>Heap.get?_push_of_some _ e,tw a _,⟨_,Heap.get?_push_size _ rfl,rfl,rfl⟩,λb hb=>?_,q⟩;have e:b=s1.heap.objs.size:=by simpa using hb
 subst e;exact I1.fpOk (Nat.le_refl _) (I1.hok.fresh (Nat.le_refl _))
theorem wM {l:Expr}{tl:TE}(hl:PE X l tl):PI X tg l (GH X.K tl):=by
 intro pins s σ H R I h;refine B9 (hl pins s σ H _ I h) λv s1 ⟨x,H1,I1,r1,q1⟩=>?_;obtain⟨a,e,⟨xs,hq⟩,q⟩:=q1;subst e;cases r1;obtain⟨its,rv,p,hz⟩:=I1.tuple hq;refine wpAny_pyIter_tuple (show s1.heap.IsTuple a its.toArray from p) ?_;refine⟨s1.heap.objs.size,[s1.heap.objs.size],_,_,H1,rfl,I1.kept (t':=s1.toks) λb o e=>Heap.get?_push_of_some _ e,pN a _,⟨_,Heap.get?_push_size _ rfl,rfl,rfl⟩,λb hb=>?_,q⟩;have e:b=s1.heap.objs.size:=by simpa using hb
 subst e;exact I1.fpOk (Nat.le_refl _) (I1.hok.fresh (Nat.le_refl _))
def Gp (wi:TI)(g:TG)(tb:TS):TS:=λD σ H=>wi σ H λJ H1=>∃ W:Nat->Nat->St->Hp->Prop,(∃ m,W 0 m σ H1)/\∀ i m σ H,W i m σ H ->
 (J.stop i H/\D.nx σ H)\/(J.go i H/\∃ N:St->Hp->Prop,(∀ σ' H',N σ' H'->∃ m',m'<m/\W (i+1) m' σ' H')/\∀ x H',J.yld i H x H'->g x σ H' λσ2 H2=>tb { D with nx:=N,ct:=N,bk:=D.nx } σ2 H2)
def Y1 (fp:List Addr)(h:Heap):List (Addr×Obj):=fp.filterMap λb=>(h.get? b).map λo=>(b,o)
theorem U5 {fp:List Addr}{h:Heap}{b:Addr}{o:Obj}(hb:b∈fp)(e:h.get? b=some o):(b,o)∈Y1 fp h:=List.mem_filterMap.mpr ⟨b,hb,by rw[e];rfl⟩
theorem uk {fp:List Addr}{h:Heap}{p:Addr×Obj}(hp:p∈Y1 fp h):p.1∈fp/\h.get? p.1=some p.2:=by
 obtain⟨b,hb,e⟩:=List.mem_filterMap.mp hp;cases q:h.get? b with
 |none=>rw[q]at e;cases e
 |some o =>
  rw[q]at e;have e':(b,o)=p:=Option.some.inj e;subst e';exact⟨hb,q⟩
theorem j7.pinned {pins:List (Addr×Obj)}{σ:St}{H:Hp}{s:Shared}{fp:List Addr}(I:j7 X pins σ H s)(hf:∀ b∈fp,bL X pins H b)(ho:∀ b∈fp,∃ o,s.heap.get? b=some o/\∀ v,o.data≠.cell v):j7 X (pins++Y1 fp s.heap) σ H s :=
 I.pins_of λp hp=>(List.mem_append.mp hp).elim (λz=>I.pin p (List.mem_append_right _ z)) λz=>by
  obtain⟨hb,e⟩:=uk z;obtain⟨f0,f1,f2,_⟩:=hf p.1 hb;obtain⟨o,e',d⟩:=ho p.1 hb;rw[e]at e';cases e';exact⟨e,f0,f1,f2,d⟩
theorem j7.unpinned {pins pl:List (Addr×Obj)}{σ:St}{H:Hp}{s:Shared}(I:j7 X (pins++pl) σ H s):j7 X pins σ H s:=I.pins_of λp hp=>I.pin p (List.mem_append_right _ (List.mem_append_left _ hp))
theorem Q8 {iter:Expr}{body:List Stmt}{wi:TI}{g:TG}{tb:TS}{pos:Pos}(hp:PassesOwn (model X.prog X.w) X.A X.env X.xe)(hc:X.calm=true)(hi:PI X tg iter wi)(hg:PG X tg g)(hb:pJ X body tb)
  (hs:∀ x,foldedSetIterable iter X.env x=pure x:=by intro _;rfl):PS X (.For tg iter body [] pos) (Gp wi g tb):=by
 intro pins s σ H D I h;refine wpAny_For (B9 (hi pins s σ H _ I h) λv s1 h1=>B9 h1 λitv s2 h2=>?_) hs;obtain⟨it,fp,tn,J,H2,e,I2,T,st2,f2,W,⟨m0,w0⟩,turn⟩:=h2;subst e;have stat:∀ {H':Hp},(∀ b∈fp,H' b=none)->∀ b∈fp,bL X pins H' b:=λhn b hb=>⟨hn b hb,(f2 b hb).2⟩;refine codeAny_forLoop_any (λn s'=>∃ i σ' H',j7 X pins σ' H' s'/\tn i s'.heap/\(∀ b∈fp,H' b=none)/\W i n σ' H') ?_ m0 ⟨0,σ,H2,I2,st2,λb hb=>(f2 b hb).1,w0⟩;rintro n s3 ⟨i,σ3,H3,I3,st3,fr3,w3⟩;rcases turn i n σ3 H3 w3 with⟨stop,qn⟩|⟨go,N,hN,step⟩
 ·refine wpAny_passesOwn hp (B9 (T.done X rfl rfl rfl hc i pins s3 σ3 H3 X.xe I3 (stat fr3) st3 stop) λr s4 ⟨hr,I4⟩=>?_);subst hr;exact wpAny_execs_nil ⟨σ3,H3,I4,qn⟩
 ·refine wpAny_passesOwn hp (B9 (T.item X rfl rfl rfl hc i pins s3 σ3 H3 X.xe I3 (stat fr3) st3 go) λr s4 ⟨u,hr,h4⟩=>?_);subst hr;refine wpAny_passesOwn hp (B9 h4 λ_ s5 ⟨x,H5,I5,r5,y5,st5,fr5⟩=>?_);have I5':=I5.pinned (stat fr5) (T.obj _ _ st5);refine wpAny_passesOwn hp (B9 (hg _ s5 σ3 H5 x u _ I5' r5 (step x H5 y5)) λ_ s6 ⟨σ6,H6,I6,q6⟩=>?_);refine wpAny_passesOwn hp (B9 (hb _ s6 σ6 H6 _ I6 q6) λf s7 q7=>?_);have again:∀ {σ7:St}{H7:Hp},j7 X (pins++Y1 fp s5.heap) σ7 H7 s7->N σ7 H7->∃ m,m<n/\∃ i σ' H',j7 X pins σ' H' s7/\tn i s7.heap/\(∀ b∈fp,H' b=none)/\W i m σ' H':=λ{σ7 H7} I7 n7=>by
   obtain⟨m',hm,w7⟩:=hN σ7 H7 n7;refine⟨m',hm,i+1,σ7,H7,I7.unpinned,T.keep _ _ _ st5 λb hb o e=>(I7.pin (b,o) (List.mem_append_right _ (List.mem_append_right _ (U5 hb e)))).1,λb hb=>?_,w7⟩;obtain⟨o,e,d⟩:=T.obj _ _ st5 b hb;exact(I7.pin (b,o) (List.mem_append_right _ (List.mem_append_right _ (U5 hb e)))).2.1
  cases f with
  |next=>obtain⟨σ7,H7,I7,n7⟩:=q7;exact again I7 n7
  |cont=>obtain⟨σ7,H7,I7,n7⟩:=q7;exact again I7 n7
  |brk=>obtain⟨σ7,H7,I7,q7⟩:=q7;exact⟨σ7,H7,I7.unpinned,q7⟩
  |ret v=>obtain⟨x7,σ7,H7,I7,r7,q7⟩:=q7;exact⟨x7,σ7,H7,I7.unpinned,r7,q7⟩
end
theorem P7 {K:W.Frag}{a:Addr}{xs:List V}{g:TG}{tb:TS}{D:jS}{σ:St}{H:Hp}(Pv:Nat->St->Hp->Prop)(h0:Pv 0 σ H)(hl:∀ i σ H,i<=xs.length->Pv i σ H->C9 K H a xs)
  (hs:∀ i x σ H,xs[i]?=some x->Pv i σ H->g x σ H λσ2 H2=>tb { D with nx:=Pv (i+1),ct:=Pv (i+1),bk:=D.nx } σ2 H2) (hd:∀ σ H,Pv xs.length σ H->D.nx σ H) :
  ∃ W:Nat->Nat->St->Hp->Prop,(∃ m,W 0 m σ H)/\∀ i m σ H,W i m σ H ->
   ((Br K a).stop i H/\D.nx σ H)\/((Br K a).go i H/\∃ N:St->Hp->Prop,(∀ σ' H',N σ' H'->∃ m',m'<m/\W (i+1) m' σ' H')/\∀ x H',(Br K a).yld i H x H'->g x σ H' λσ2 H2=>tb { D with nx:=N,ct:=N,bk:=D.nx } σ2 H2):=by
 refine⟨λi m σ H=>m=xs.length-i/\i<=xs.length/\Pv i σ H,⟨xs.length,by simp,Nat.zero_le _,h0⟩,?_⟩;rintro i m σ H ⟨rfl,hi,p⟩;have q:=hl i σ H hi p;by_cases hlt:i<xs.length
 ·refine .inr ⟨⟨xs,xs[i],q,by simp[hlt]⟩,Pv (i+1),λσ' H' p'=>⟨xs.length-(i+1),by omega,rfl,hlt,p'⟩,λx H' y=>?_⟩;obtain⟨e,y⟩:=y;subst e;exact hs i x σ _ (y xs q) p
 ·have e:i=xs.length:=by omega
  subst e;exact .inl ⟨⟨xs,q,Nat.le_refl _⟩,hd σ H p⟩
theorem sE {K:W.Frag}{a:Addr}{xs:List V}{g:TG}{tb:TS}{D:jS}{σ:St}{H:Hp}(Pv:Nat->St->Hp->Prop)(h0:Pv 0 σ H)(hl:∀ i σ H,i<=xs.length->Pv i σ H->W2 K H a xs)
  (hs:∀ i x σ H,xs[i]?=some x->Pv i σ H->g x σ H λσ2 H2=>tb { D with nx:=Pv (i+1),ct:=Pv (i+1),bk:=D.nx } σ2 H2) (hd:∀ σ H,Pv xs.length σ H->D.nx σ H) :
  ∃ W:Nat->Nat->St->Hp->Prop,(∃ m,W 0 m σ H)/\∀ i m σ H,W i m σ H ->
   ((Gb K a).stop i H/\D.nx σ H)\/((Gb K a).go i H/\∃ N:St->Hp->Prop,(∀ σ' H',N σ' H'->∃ m',m'<m/\W (i+1) m' σ' H')/\∀ x H',(Gb K a).yld i H x H'->g x σ H' λσ2 H2=>tb { D with nx:=N,ct:=N,bk:=D.nx } σ2 H2):=by
 refine⟨λi m σ H=>m=xs.length-i/\i<=xs.length/\Pv i σ H,⟨xs.length,by simp,Nat.zero_le _,h0⟩,?_⟩;rintro i m σ H ⟨rfl,hi,p⟩;have q:=hl i σ H hi p;by_cases hlt:i<xs.length
 ·refine .inr ⟨⟨xs,xs[i],q,by simp[hlt]⟩,Pv (i+1),λσ' H' p'=>⟨xs.length-(i+1),by omega,rfl,hlt,p'⟩,λx H' y=>?_⟩;obtain⟨e,y⟩:=y;subst e;exact hs i x σ _ (y xs q) p
 ·have e:i=xs.length:=by omega
  subst e;exact .inl ⟨⟨xs,q,Nat.le_refl _⟩,hd σ H p⟩
theorem Y7 {c:TT}{tb:TS}{D:jS}{σ:St}{H:Hp}(Pv:St->Hp->Prop)(μ:St->Hp->Nat)(h0:Pv σ H)
  (hs:∀ σ H,Pv σ H->c σ H λb H1=>if b=true then tb { D with nx:=λσ' H'=>Pv σ' H'/\μ σ' H'<μ σ H,ct:=λσ' H'=>Pv σ' H'/\μ σ' H'<μ σ H,bk:=D.nx } σ H1 else D.nx σ H1)
  (mono:∀ σ H Q Q',(∀ b H1,Q b H1->Q' b H1)->c σ H Q->c σ H Q'):vN c tb D σ H:=by
 refine⟨λm σ H=>m=μ σ H/\Pv σ H,⟨_,rfl,h0⟩,?_⟩;rintro m σ H ⟨rfl,p⟩;refine mono σ H _ _ (λb H1 q=>?_) (hs σ H p);cases b with
 |true=>exact⟨_,λσ' H' ⟨p',l⟩=>⟨_,l,rfl,p'⟩,q⟩
 |false=>exact q
abbrev R2:=V->V->Hp->VK->Prop
def fB (X:Cx)(f:Value->Value->Sem Value)(r:R2):Prop :=
 ∀ (pins:List (Addr×Obj)) (s:Shared) (σ:St) (H:Hp) (x y:V) (v u:Value) (Q:VK),j7 X pins σ H s->A0 x v->A0 y u->r x y H Q ->
  wpAny (model X.prog X.w) X.A (f v u) (EP X pins σ Q) X.xe s
def GW (X:Cx)(f:Value->Sem Value)(r:V->Hp->VK->Prop):Prop :=
 ∀ (pins:List (Addr×Obj)) (s:Shared) (σ:St) (H:Hp) (x:V) (v:Value) (Q:VK),j7 X pins σ H s->A0 x v->r x H Q ->
  wpAny (model X.prog X.w) X.A (f v) (EP X pins σ Q) X.xe s
def gK (X:Cx)(f:Value)(r:List V->Hp->VK->Prop):Prop :=
 ∀ (pins:List (Addr×Obj)) (s:Shared) (σ:St) (H:Hp) (xs:List V) (us:List Value) (Q:VK),j7 X pins σ H s->x9 xs us->r xs H Q ->
  wpAny (model X.prog X.w) X.A (call f us) (EP X pins σ Q) X.xe s
def vQ (r:R2)(ta tb:TE):TE:=λσ H Q=>ta σ H λx H1=>tb σ H1 λy H2=>r x y H2 Q
def Ha (r:V->Hp->VK->Prop)(ta:TE):TE:=λσ H Q=>ta σ H λx H1=>r x H1 Q
def rI (C:Int->Int->Prop)(g:Int->Int->V):R2:=λx y H Q=>∃ i j,x=.int i/\y=.int j/\C i j/\Q (g i j) H
def tW (g:Int->Int->V):R2:=λx y H Q=>∃ i j,x=.int i/\y=.int j/\Q (g i j) H
def rU (g:Int->V):V->Hp->VK->Prop:=λx H Q=>∃ i,x=.int i/\Q (g i) H
section
variable {X:Cx}{a b c:Expr}{ta tb tc:TE}{pos:Pos}
theorem Eu (ha:PE X a ta)(hb:PE X b tb){pins:List (Addr×Obj)}{s:Shared}{σ:St}{H:Hp}{R:V->V->Hp->Prop}(I:j7 X pins σ H s)
  (h:ta σ H λx H1=>tb σ H1 λy H2=>R x y H2) {Q:Value->Shared->Prop}{f:Value->Value->Sem Value}
  (hf:∀ v u s2 x y H2,j7 X pins σ H2 s2->A0 x v->A0 y u->R x y H2->wpAny (model X.prog X.w) X.A (f v u) Q X.xe s2) :
  wpAny (model X.prog X.w) X.A (eval a X.env) (λv s₁=>wpAny (model X.prog X.w) X.A (eval b X.env) (λu s₂=>wpAny (model X.prog X.w) X.A (f v u) Q X.xe s₂) X.xe s₁) X.xe s:=by
 refine B9 (ha pins s σ H _ I h) λv s1 ⟨x,H1,I1,r1,q1⟩=>?_;refine B9 (hb pins s1 σ H1 _ I1 q1) λu s2 ⟨y,H2,I2,r2,q2⟩=>?_;exact hf v u s2 x y H2 I2 r1 r2 q2
theorem i5 {op:Operator}{r:R2}(ho:fB X (binaryOp op) r)(ha:PE X a ta)(hb:PE X b tb):PE X (.BinOp a op b pos) (vQ r ta tb):=by
 intro pins s σ H Q I h;exact wpAny_BinOp (Eu ha hb I h λv u s2 x y H2 I2 rx ry q=>ho pins s2 σ H2 x y v u Q I2 rx ry q)
theorem eM {op:UnaryOp}{r:V->Hp->VK->Prop}(ho:GW X (unaryOp op) r)(ha:PE X a ta):PE X (.UnaryOp op a pos) (Ha r ta):=by
 intro pins s σ H Q I h;exact UnaryOp_ (B9 (ha pins s σ H _ I h) λv s1 ⟨x,H1,I1,r1,q1⟩=>ho pins s1 σ H1 x v Q I1 r1 q1)
theorem Fq {f:Value->Value->Sem Value}{C:Int->Int->Prop}{g:Int->Int->Int}
  (rule:∀ (i j:Int) (t u:Tok) (s:Shared) (Q:Value->Shared->Prop) (E:Value->Shared->Prop),C i j->Q (.int (g i j) s.toks) { s with toks:=s.toks+1 }->wpAny (model X.prog X.w) X.A (f (.int i t) (.int j u)) Q E s) :
  fB X f (rI C λi j=>.int (g i j)):=by
 intro pins s σ H x y v u Q I rx ry h;obtain⟨i,j,rfl,rfl,hc,q⟩:=h;obtain⟨t,rfl⟩:=rx;obtain⟨t',rfl⟩:=ry;exact rule i j t t' s _ _ hc ⟨.int (g i j),H,I.tok _,⟨_,rfl⟩,q⟩
theorem Cn {f:Value->Value->Sem Value}{g:Int->Int->Int}
  (rule:∀ (i j:Int) (t u:Tok) (s:Shared) (Q:Value->Shared->Prop) (E:Value->Shared->Prop),Q (.int (g i j) s.toks) { s with toks:=s.toks+1 }->wpAny (model X.prog X.w) X.A (f (.int i t) (.int j u)) Q E s) :
  fB X f (tW λi j=>.int (g i j)):=by
 intro pins s σ H x y v u Q I rx ry h;obtain⟨i,j,rfl,rfl,q⟩:=h;obtain⟨t,rfl⟩:=rx;obtain⟨t',rfl⟩:=ry;exact rule i j t t' s _ _ ⟨.int (g i j),H,I.tok _,⟨_,rfl⟩,q⟩
theorem zp {f:Value->Value->Sem Value}{g:Int->Int->Bool}
  (rule:∀ (i j:Int) (t u:Tok) (s:Shared) (Q:Value->Shared->Prop) (E:Value->Shared->Prop),Q (.bool (g i j)) s->wpAny (model X.prog X.w) X.A (f (.int i t) (.int j u)) Q E s) :
  fB X f (tW λi j=>.bl (g i j)):=by
 intro pins s σ H x y v u Q I rx ry h;obtain⟨i,j,rfl,rfl,q⟩:=h;obtain⟨t,rfl⟩:=rx;obtain⟨t',rfl⟩:=ry;exact rule i j t t' s _ _ ⟨.bl (g i j),H,I,rfl,q⟩
def AK (i j:Int):Prop:=(-(2^64)<i/\i<2^64)\/(-(2^64)<j/\j<2^64)
theorem AK.ok {i j:Int}(h:AK i j):IntMulOk i j:=by
 rcases h with⟨h1,h2⟩|⟨h1,h2⟩
 ·exact .of_left (intBits_le_64 h1 h2)
 ·exact .of_right (intBits_le_64 h1 h2)
theorem C7:fB X (binaryOp .Add) (tW λi j=>.int (i+j)):=Cn λ_ _ _ _ _ _ _ q=>add_int q
theorem Y2:fB X (binaryOp .Sub) (tW λi j=>.int (i-j)):=Cn λ_ _ _ _ _ _ _ q=>sub_int q
theorem Cj:fB X (binaryOp .Mult) (rI AK λi j=>.int (i*j)):=Fq λ_ _ _ _ _ _ _ hc q=>mul_int q hc.ok
theorem Ck:fB X (binaryOp .Mod) (rI (λ_ j=>0<j) λi j=>.int (i%j)):=Fq λi j _ _ _ _ _ hc q=>by
 have h1:(0:Int)<j:=hc;exact mod_int' (by omega) (by rw[Int.fmod_eq_emod_of_nonneg i (by omega)];exact q)
theorem Af:fB X (inplaceOp .Add) (tW λi j=>.int (i+j)):=Cn λ_ _ _ _ _ _ _ q=>iadd_int q
theorem Ae:fB X (inplaceOp .Mult) (rI AK λi j=>.int (i*j)):=Fq λ_ _ _ _ _ _ _ hc q=>imul_int q hc.ok
theorem Hr {f:Value->Sem Value}{g:Int->Int}
  (rule:∀ (i:Int) (t:Tok) (s:Shared) (Q:Value->Shared->Prop) (E:Value->Shared->Prop),Q (.int (g i) s.toks) { s with toks:=s.toks+1 }->wpAny (model X.prog X.w) X.A (f (.int i t)) Q E s) :
  GW X f (rU λi=>.int (g i)):=by
 intro pins s σ H x v Q I rx h;obtain⟨i,rfl,q⟩:=h;obtain⟨t,rfl⟩:=rx;exact rule i t s _ _ ⟨.int (g i),H,I.tok _,⟨_,rfl⟩,q⟩
theorem aA:GW X (unaryOp .USub) (rU λi=>.int (-i)):=Hr λ_ _ _ _ _ q=>neg_int q
end
def Fd:V->V->Bool
 |.non,.non=>true|.non,.int _=>true|.int _,.non=>true|.non,.bl _=>true|.bl _,.non=>true|.non,.str _=>true|.str _,.non=>true
 |.int _,.int _=>true|.bl _,.bl _=>true|.str _,.str _=>true|.byt _,.byt _=>true
 |.int _,.str _=>true|.str _,.int _=>true|.bl _,.str _=>true|.str _,.bl _=>true
 |_,_=>false
def Hi:R2:=λx y H Q=>Fd x y=true/\Q (.bl (decide (x=y))) H
def Hv:R2:=λx y H Q=>Fd x y=true/\Q (.bl (!decide (x=y))) H
theorem sO {i j:Int}:decide (V.int i=V.int j)=(i==j):=by
 rw[Bool.eq_iff_iff];simp
theorem ym {i j:Bool}:decide (V.bl i=V.bl j)=(i==j):=by
 rw[Bool.eq_iff_iff];simp
theorem sN {i j:Str}:decide (V.str i=V.str j)=(i==j):=by
 rw[Bool.eq_iff_iff];simp
theorem sP {i j:Array UInt8}:decide (V.byt i=V.byt j)=(i.toList==j.toList):=by
 rw[Bool.eq_iff_iff];cases i;cases j;simp
section
variable {X:Cx}{a b c:Expr}{ta tb tc:TE}{pos:Pos}
theorem A1 {pins:List (Addr×Obj)}{σ:St}{H:Hp}{s:Shared}{Q:VK}{k k':Bool}(I:j7 X pins σ H s)(q:Q (.bl k) H)(e:k=k'):EP X pins σ Q (.bool k') s:=by
 subst e;exact⟨.bl k,H,I,rfl,q⟩
theorem K2:fB X (compareOp .Eq) Hi:=by
 intro pins s σ H x y v u Q I rx ry h;obtain⟨hs,q⟩:=h;cases x with
 |non =>
  cases rx;cases y with
  |non=>cases ry;exact PySem.EqNone.eq_none_none (A1 I q (by simp))
  |bl j=>cases ry;exact PySem.EqNone.eq_none_bool (A1 I q (by simp))
  |int j=>obtain⟨t',rfl⟩:=ry;exact PySem.EqNone.eq_none_int (A1 I q (by simp))
  |str j=>obtain⟨t',rfl⟩:=ry;exact PySem.EqNone.eq_none_str (A1 I q (by simp))
  |_=>exact absurd (show false=true from hs) Bool.false_ne_true
 |bl i =>
  cases rx;cases y with
  |non=>cases ry;exact PySem.EqNone.eq_bool_none (A1 I q (by simp))
  |bl j=>cases ry;exact eq_bool (A1 I q ym)
  |str j=>obtain⟨t',rfl⟩:=ry;exact PySem.EqMixed.eq_bool_str (A1 I q (by simp))
  |_=>exact absurd (show false=true from hs) Bool.false_ne_true
 |int i =>
  obtain⟨t,rfl⟩:=rx;cases y with
  |non=>cases ry;exact PySem.EqNone.eq_int_none (A1 I q (by simp))
  |int j=>obtain⟨t',rfl⟩:=ry;exact eq_int (A1 I q sO)
  |str j=>obtain⟨t',rfl⟩:=ry;exact PySem.EqMixed.eq_int_str (A1 I q (by simp))
  |_=>exact absurd (show false=true from hs) Bool.false_ne_true
 |str i =>
  obtain⟨t,rfl⟩:=rx;cases y with
  |non=>cases ry;exact PySem.EqNone.eq_str_none (A1 I q (by simp))
  |bl j=>cases ry;exact PySem.EqMixed.eq_str_bool (A1 I q (by simp))
  |int j=>obtain⟨t',rfl⟩:=ry;exact PySem.EqMixed.eq_str_int (A1 I q (by simp))
  |str j=>obtain⟨t',rfl⟩:=ry;exact eq_str (A1 I q sN)
  |_=>exact absurd (show false=true from hs) Bool.false_ne_true
 |byt i =>
  obtain⟨t,rfl⟩:=rx;cases y with
  |byt j=>obtain⟨t',rfl⟩:=ry;exact W.eq_bytes (A1 I q sP)
  |_=>exact absurd (show false=true from hs) Bool.false_ne_true
 |_=>cases y<;>exact absurd (show false=true from hs) Bool.false_ne_true
theorem AZ:fB X (compareOp .NotEq) Hv:=by
 intro pins s σ H x y v u Q I rx ry h;obtain⟨hs,q⟩:=h;cases x with
 |non =>
  cases rx;cases y with
  |non=>cases ry;exact PySem.EqNone.ne_none_none (A1 I q (by simp))
  |bl j=>cases ry;exact PySem.EqNone.ne_none_bool (A1 I q (by simp))
  |int j=>obtain⟨t',rfl⟩:=ry;exact PySem.EqNone.ne_none_int (A1 I q (by simp))
  |str j=>obtain⟨t',rfl⟩:=ry;exact PySem.EqNone.ne_none_str (A1 I q (by simp))
  |_=>exact absurd (show false=true from hs) Bool.false_ne_true
 |bl i =>
  cases rx;cases y with
  |non=>cases ry;exact PySem.EqNone.ne_bool_none (A1 I q (by simp))
  |bl j=>cases ry;exact ne_bool (A1 I q (congrArg not ym))
  |str j=>obtain⟨t',rfl⟩:=ry;exact PySem.EqMixed.ne_bool_str (A1 I q (by simp))
  |_=>exact absurd (show false=true from hs) Bool.false_ne_true
 |int i =>
  obtain⟨t,rfl⟩:=rx;cases y with
  |non=>cases ry;exact PySem.EqNone.ne_int_none (A1 I q (by simp))
  |int j=>obtain⟨t',rfl⟩:=ry;exact ne_int (A1 I q (congrArg not sO))
  |str j=>obtain⟨t',rfl⟩:=ry;exact PySem.EqMixed.ne_int_str (A1 I q (by simp))
  |_=>exact absurd (show false=true from hs) Bool.false_ne_true
 |str i =>
  obtain⟨t,rfl⟩:=rx;cases y with
  |non=>cases ry;exact PySem.EqNone.ne_str_none (A1 I q (by simp))
  |bl j=>cases ry;exact PySem.EqMixed.ne_str_bool (A1 I q (by simp))
  |int j=>obtain⟨t',rfl⟩:=ry;exact PySem.EqMixed.ne_str_int (A1 I q (by simp))
  |str j=>obtain⟨t',rfl⟩:=ry;exact ne_str (A1 I q (congrArg not sN))
  |_=>exact absurd (show false=true from hs) Bool.false_ne_true
 |byt i =>
  obtain⟨t,rfl⟩:=rx;cases y with
  |byt j=>obtain⟨t',rfl⟩:=ry;exact W.ne_bytes (A1 I q (congrArg not sP))
  |_=>exact absurd (show false=true from hs) Bool.false_ne_true
 |_=>cases y<;>exact absurd (show false=true from hs) Bool.false_ne_true
theorem jc:fB X (compareOp .Lt) (tW λi j=>.bl (decide (i<j))):=zp λ_ _ _ _ _ _ _ q=>lt_int q
theorem kr:fB X (compareOp .LtE) (tW λi j=>.bl (decide (i<=j))):=zp λ_ _ _ _ _ _ _ q=>le_int q
theorem gw:fB X (compareOp .Gt) (tW λi j=>.bl (decide (j<i))):=zp λ_ _ _ _ _ _ _ q=>gt_int q
theorem Ba:fB X (compareOp .GtE) (tW λi j=>.bl (decide (j<=i))):=zp λ_ _ _ _ _ _ _ q=>ge_int q
theorem n9 (b:Expr){op:CmpOp}(h:op≠.In:=by decide)(h2:op≠.NotIn:=by decide):behindInMarks op b=false:=by
 have e1:(op==CmpOp.In)=false:=by cases op<;>first|rfl|exact absurd rfl h
 have e2:(op==CmpOp.NotIn)=false:=by cases op<;>first|rfl|exact absurd rfl h2
 cases b<;>simp[behindInMarks,e1,e2]
theorem V8 {op:CmpOp}{r:R2}(ho:fB X (compareOp op) r)(ha:PE X a ta)(hb:PE X b tb)(hm:behindInMarks op b=false):PE X (.Compare a [op] [b] pos) (vQ r ta tb):=by
 intro pins s σ H Q I h;exact wpAny_Compare1 (Eu ha hb I h λv u s2 x y H2 I2 rx ry q=>ho pins s2 σ H2 x y v u Q I2 rx ry q) hm
def AL (t:TE):TT:=λσ H Q=>t σ H λx H'=>∃ k,x=.bl k/\Q k H'
theorem m9 {op:CmpOp}{r:R2}(ho:fB X (compareOp op) r)(ha:PE X a ta)(hb:PE X b tb)(hm:behindInMarks op b=false):PT X (.Compare a [op] [b] pos) (AL (vQ r ta tb)):=by
 intro pins s σ H Q I h;refine wpAny_isTrue_Compare1 (B9 (ha pins s σ H _ I h) λv s1 ⟨x,H1,I1,r1,q1⟩=>B9 (hb pins s1 σ H1 _ I1 q1) λu s2 ⟨y,H2,I2,r2,q2⟩ =>
  B9 (ho pins s2 σ H2 x y v u _ I2 r1 r2 q2) λc s3 ⟨z,H3,I3,r3,k,e,q3⟩=>?_) hm
 subst e;cases r3;exact wpAny_truthy_bool ⟨H3,I3,q3⟩
def vR (r r':R2)(ta tb tc:TE):TE:=λσ H Q=>ta σ H λx H1=>tb σ H1 λy H2=>r x y H2 λz H3=>∃ k,z=.bl k /\
 (if k=true then tc σ H3 λw' H4=>r' y w' H4 Q else Q (.bl false) H3)
theorem iY {op op':CmpOp}{r r':R2}(ho:fB X (compareOp op) r)(ho':fB X (compareOp op') r')(ha:PE X a ta)(hb:PE X b tb)(hc:PE X c tc)
  (hm:lastMarks [op,op'] [b,c]=false:=by with_unfolding_all rfl):PE X (.Compare a [op,op'] [b,c] pos) (vR r r' ta tb tc):=by
 intro pins s σ H Q I h;refine Compare_chain (B9 (ha pins s σ H _ I h) λv s1 ⟨x,H1,I1,r1,q1⟩=>chain_link (B9 (hb pins s1 σ H1 _ I1 q1) λu s2 ⟨y,H2,I2,r2,q2⟩ =>
  B9 (ho pins s2 σ H2 x y v u _ I2 r1 r2 q2) λd s3 ⟨z,H3,I3,r3,k,e,q3⟩=>?_)) hm
 subst e;cases r3;refine wpAny_truthy_bool ?_;cases k with
 |false=>exact ite_ff ⟨.bl false,H3,I3,rfl,q3⟩
 |true=>exact ite_tt (chain_last (B9 (hc pins s3 σ H3 _ I3 q3) λw' s4 ⟨z',H4,I4,r4,q4⟩=>ho' pins s4 σ H4 y z' u w' Q I4 r2 r4 q4))
theorem qw:(sizeLine:Nat)<2^63:=by rw[sizeLine_eq];decide
theorem jV {x:V}{us:List Value}(r:x9 [x] us):∃ u,us=[u]/\A0 x u:=by
 cases r with
 |cons r1 r2=>cases r2;exact⟨_,rfl,r1⟩
theorem jF:gK X (.builtin "abs") (λxs H Q=>∃ i,xs=[.int i]/\Q (.int (if i<0 then -i else i)) H):=by
 intro pins s σ H xs us Q I r h;obtain⟨i,rfl,q⟩:=h;obtain⟨u,rfl,t,rfl⟩:=jV r;exact call_abs_int λu tk=>⟨.int (if i<0 then -i else i),H,I.tok _,⟨_,rfl⟩,q⟩
theorem jE:gK X (.builtin "ord") (λxs H Q=>∃ x,xs=[.str x]/\x.length=1/\Q (.int (x.cps.getD 0 0:Nat)) H):=by
 intro pins s σ H xs us Q I r h;obtain⟨x,rfl,hz,q⟩:=h;obtain⟨u,rfl,t,rfl⟩:=jV r;exact ord_of_one hz ⟨.int _,H,I.tok _,⟨_,rfl⟩,q⟩
end
structure qP (h:Heap)(x dx C:Addr)(mA:Str->Option Value):Prop where
 obj:h.get? x=some (W.instObj C dx)
 ns:h.Ns1 dx mA
 ne:dx≠x
theorem uu {h:Heap}{dx:Addr}{mA:Str->Option Value}(n:h.Ns1 dx mA):∃ od,h.get? dx=some od/\∀ name,W.lookIn name od=some (mA name):=by
 obtain⟨o,es,ep,ho,hd,hk,_,hm⟩:=n;refine⟨o,ho,λname=>?_⟩;have e:=hm name;unfold nsFind findBy at e;rw[<-Array.find?_toList]at e;unfold W.lookIn;rw[hd];dsimp only;split
 ·rename_i y q
  rw[q]at e;exact congrArg some e
 ·rename_i q
  rw[q]at e;have a:es.toList.any (·.refKey)=false:=by
   rw[List.any_eq_false];intro y hy;obtain⟨z,t,hkey⟩:=hk y (Array.mem_toList_iff.mp hy);simp[DictEntry.refKey,hkey]
  have a':¬ es.toList.any (·.refKey)=true:=by rw[a];exact Bool.false_ne_true
  rw[if_neg a'];exact congrArg some e
theorem qP.look {h:Heap}{x dx C:Addr}{mA:Str->Option Value}(I:qP h x dx C mA):∃ od,W.InstAt h x (W.instObj C dx) C (some od)/\∀ name,W.lookIn name od=some (mA name) :=
 let⟨od,ho,hl⟩:=uu I.ns
 ⟨od,⟨I.obj,rfl,rfl,ho⟩,hl⟩
section
variable {prog:Program}{w:World}{A:Around}{E:Value->Shared->Prop}{s:Shared}{K:W.Frag}{x dx C f:Addr}{mA:Str->Option Value}{name:Str}{v:Value}
theorem Aj {expr:Bool}{Q:Value->Shared->Prop}(X:K.In s.heap)(I:qP s.heap x dx C mA)(hg:W.plainGet K C name=true)(hh:W.hasDictIn K C=true)
  (ha:W.findIn K (.ref C) name=some none) (hv:mA name=some v) (hv':W.handedIn v=true) (h:Q v { s with toks:=s.toks+1 }) :
  wpAny (model prog w) A (getAttr (.ref x) name expr) Q E s:=by
 obtain⟨od,J,hl⟩:=I.look;exact W.get_value X J (W.plainGet_of hg).1 (W.findObj_own hh ha rfl (by rw[hl,hv])) hv' h
theorem yc {pl:Sem Bool}{Q:Value×List Value->Shared->Prop}(X:K.In s.heap)(I:qP s.heap x dx C mA)(hg:W.plainGet K C name=true)
  (hf:W.findIn K (.ref C) name=some (some (.ref f))) (ht:W.isFn K (.ref f)=true) (hv:mA name=none) (h:Q (.ref f,[.ref x]) s) :
  wpAny (model prog w) A (getMethod (.ref x) name pl) Q E s:=by
 obtain⟨od,J,hl⟩:=I.look;exact W.method_fn X J (W.plainGet_of hg).1 (W.plainGet_of hg).2 hf (beq_iff_eq.mp ht) (by show(W.lookIn name od).map (·.isSome)=some false;rw[hl,hv];rfl) h
theorem yT {ns:List Str}{Q:Unit->Shared->Prop}(X:K.In s.heap)(I:qP s.heap x dx C mA)
  (hs:W.findIn K (.ref C) "__setattr__"=some (some (.builtin "object.__setattr__"))) (hp:W.plainOver K C=true) (ht:W.takerIn K C name=some none) (hh:W.hasDictIn K C=true)
  (hw:PySem.Within mA ns) (hsz:ns.length<=sizeLine)
  (h:∀ h',qP h' x dx C (λy=>if y=name then some v else mA y)->Heap.SameBut dx s.heap h'->Q () { s with heap:=h',toks:=s.toks+2 }) :
  wpAny (model prog w) A (setAttr (.ref x) name v) Q E s:=by
 obtain⟨od,J,hl⟩:=I.look;refine W.set_plain X J hs (W.osa_open (s:={ s with toks:=s.toks+1 }) (r:=none) X J hp ht λb=>?_);obtain⟨cd,hc,hd'⟩:=W.any_some hh;have hx:s.heap.get? x=some ⟨.ref C,some dx,.plain,#[]⟩:=I.obj;refine wpAny_bind (wpAny_pure (wpAny_bind (wpAny_bind (wpAny_loadPart hx (wpAny_bind (W.Looks.here (s:={ s with toks:=s.toks+1 }) (W.looks_clsIn X hc) ?_))))));rw[hd'];refine wpAny_pure (a:=some dx) (wpAny_bind (wpAny_pure (wpAny_bind ?_)));refine wpAny_nsSet1 (s:={ s with toks:=s.toks+1 }) I.ns λh' hn2 hs2=>?_;obtain⟨oD,esD,epD,hoD,hdD,hcD⟩:=hn2.count (PySem.Within.cons name v hw);refine wpAny_bind (wpAny_lookBehind hoD (by rw[hdD];exact pastItsLine_dict (Nat.le_trans hcD (by rw[List.length_cons];omega))) ?_);exact wpAny_pure (h _ ⟨(hs2.2 _ (Ne.symm I.ne)).trans I.obj,hn2,I.ne⟩ hs2)
theorem xA {R:Result->Shared->Prop}{vs:List Value}{kw:List (Str×Value)}(X:K.In s.heap)(hm:W.makesIn K C=true)
  (hi:W.findIn K (.ref C) "__init__"=some (some (.ref f))) (hf:W.typeIn K (.ref f)=some (.type "function"))
  (h:codeAny (model prog w) (A.under (.builtin "type.__call__" ⟨.ref C::vs,kw⟩)) (.call (.ref f) ⟨.ref (s.heap.objs.size+1)::vs,kw⟩) (W.InitBack (s.heap.objs.size+1) R)
   { s with heap:=(s.heap.push W.emptyDict).push (W.instObj C s.heap.objs.size) }) :
  codeAny (model prog w) A (.call (.ref C) ⟨vs,kw⟩) R s:=by
 obtain⟨hh,g,d,t,os⟩:=s;exact W.make_core (W.makes_of X hm) (W.looks_findIn X hi) (λself=>W.bind_fn X self hf) (.inl rfl) h
end
def C3 (f:Str)(v:V):List (Str×V)->List (Str×V)
 |[]=>[(f,v)]
 | (g,x)::r=>if g=f then(g,v)::r else(g,x)::C3 f v r
theorem cz (f g:Str)(v:V):∀ fs:List (Str×V),(C3 f v fs).lookup g=if g=f then some v else fs.lookup g
 |[]=>by
  show List.lookup g [(f,v)]=_;by_cases h:g=f
  ·have hb:(g==f)=true:=beq_iff_eq.mpr h;simp only[List.lookup,hb,if_pos h]
  ·have hb:(g==f)=false:=beq_eq_false_iff_ne.mpr h;simp only[List.lookup,hb,if_neg h]
 | (k,x)::r=>by
  have ih:=cz f g v r;rw[show C3 f v ((k,x)::r)=(if k=f then(k,v)::r else(k,x)::C3 f v r) from rfl];by_cases hk:k=f
  ·rw[if_pos hk];by_cases h:g=k
   ·have hb:(g==k)=true:=beq_iff_eq.mpr h;simp only[List.lookup,hb,if_pos (h.trans hk)]
   ·have hb:(g==k)=false:=beq_eq_false_iff_ne.mpr h;simp only[List.lookup,hb,if_neg (λe:g=f=>h (e.trans hk.symm))]
  ·rw[if_neg hk];by_cases h:g=k
   ·have hb:(g==k)=true:=beq_iff_eq.mpr h;simp only[List.lookup,hb,if_neg (λe:g=f=>hk (h.symm.trans e))]
   ·have hb:(g==k)=false:=beq_eq_false_iff_ne.mpr h;simp only[List.lookup,hb];exact ih
theorem af (f:Str)(v:V):∀ fs:List (Str×V),f∈(C3 f v fs).map (·.1)/\∀ g,g∈fs.map (·.1)->g∈(C3 f v fs).map (·.1)
 |[]=>⟨by simp[C3],λg h=>by simp at h⟩
 | (k,x)::r=>by
  obtain⟨i1,i2⟩:=af f v r;rw[show C3 f v ((k,x)::r)=(if k=f then(k,v)::r else(k,x)::C3 f v r) from rfl];by_cases hk:k=f
  ·rw[if_pos hk];subst hk;exact⟨by simp,λg h=>by simpa using h⟩
  ·rw[if_neg hk];refine⟨?_,λg h=>?_⟩
   ·rw[List.map_cons];exact List.mem_cons_of_mem _ i1
   ·rw[List.map_cons]at h⊢;rcases List.mem_cons.mp h with e|e
    ·exact List.mem_cons.mpr (.inl e)
    ·exact List.mem_cons_of_mem _ (i2 g e)
theorem gA (f:Str)(v:V):∀ fs:List (Str×V),(C3 f v fs).length<=fs.length+1
 |[]=>by simp[C3]
 | (k,x)::r=>by
  have ih:=gA f v r;rw[show C3 f v ((k,x)::r)=(if k=f then(k,v)::r else(k,x)::C3 f v r) from rfl];by_cases hk:k=f
  ·rw[if_pos hk,List.length_cons,List.length_cons];omega
  ·rw[if_neg hk,List.length_cons,List.length_cons];omega
theorem ax.some_of {v:V}{o:Option Value}(r:ax (some v) o):∃ u,o=some u/\A0 v u:=by
 cases o with
 |none=>exact(show False from r).elim
 |some u=>exact⟨u,rfl,r⟩
theorem ax.none_of {o:Option Value}(r:ax none o):o=none:=by
 cases o with
 |none=>rfl
 |some u=>exact(show False from r).elim
theorem kK {v:V}{u:Value}(r:A0 v u):W.handedIn u=true:=by
 cases v with
 |non=>cases(show u=Value.none from r);rfl
 |bl b=>cases(show u=Value.bool b from r);rfl
 |int i=>obtain⟨t,e⟩:=(show ∃ t,u=Value.int i t from r);cases e;rfl
 |str x=>obtain⟨t,e⟩:=(show ∃ t,u=Value.str x t from r);cases e;rfl
 |byt b=>obtain⟨t,e⟩:=(show ∃ t,u=Value.bytes b t from r);cases e;rfl
 |flt b=>obtain⟨t,e⟩:=(show ∃ t,u=Value.float b t from r);cases e;rfl
 |ref a=>cases(show u=Value.ref a from r);rfl
 |ty n=>cases(show u=Value.type n from r);rfl
section
variable {P:Program}{w:World}{H H':Hp}{h h':Heap}{a C dx:Addr}{fs fs':List (Str×V)}
theorem mj (hok:ay P w H h)(e:H a=some (.ins C dx fs)):∃ mA,qP h a dx C mA/\(∀ f,ax (fs.lookup f) (mA f))/\PySem.Within mA (fs.map (·.1))/\fs.length<=1000/\H dx=some (.own a):=by
 obtain⟨d,z,ne,ob,mA,n,r,q⟩:=(show y3 P w H h a (.ins C dx fs) from hok a _ e);exact⟨mA,⟨ob,n,ne⟩,r,q,z,d⟩
end
structure kZ (K:W.Frag)(C:Addr):Prop where
 pg:W.plainGet K C Str.empty=true
 hd:W.hasDictIn K C=true
 po:W.plainOver K C=true
 sa:W.findIn K (.ref C) "__setattr__"=some (some (.builtin "object.__setattr__"))
theorem kZ.get {K:W.Frag}{C:Addr}(c:kZ K C)(f:Str):W.plainGet K C f=true:=c.pg
def t8 (K:W.Frag)(C:Addr)(f:Str):Prop:=W.findIn K (.ref C) f=some none
theorem t8.taker {K:W.Frag}{C:Addr}{f:Str}(n:t8 K C f):W.takerIn K C f=some none:=by
 unfold W.takerIn;rw[show W.findIn K (.ref C) f=some none from n];rfl
structure uS (K:W.Frag)(C:Addr)(m:Str)(f:Addr):Prop where
 at_:W.findIn K (.ref C) m=some (some (.ref f))
 fn:W.isFn K (.ref f)=true
 kp:W.keepIn K (.ref f)=true
section
variable {X:Cx}{pins:List (Addr×Obj)}{σ:St}{H:Hp}{s:Shared}{a C dx:Addr}{fs:List (Str×V)}{f:Str}{v:V}{A:Around}{E:Value->Shared->Prop}
theorem qC {b:Bool}{Q:Value->Shared->Prop}(I:j7 X pins σ H s)(e:H a=some (.ins C dx fs))(c:kZ X.K C)(n:t8 X.K C f)(l:fs.lookup f=some v)
  (h:∀ u s',j7 X pins σ H s'->A0 v u->Q u s'):wpAny (model X.prog X.w) A (getAttr (.ref a) f b) Q E s:=by
 obtain⟨mA,O,r,_,_,_⟩:=mj I.hok e;obtain⟨u,hu,ru⟩:=ax.some_of (v:=v) (o:=mA f) (by rw[<-l];exact r f);exact Aj I.kIn O (c.get f) c.hd n hu (kK ru) (h u _ (I.tok _) ru)
theorem dS {m:Str}{g:Addr}{pl:Sem Bool}{Q:Value×List Value->Shared->Prop}(I:j7 X pins σ H s)(e:H a=some (.ins C dx fs))(c:kZ X.K C)(k:uS X.K C m g)(l:fs.lookup m=none)
  (h:Q (.ref g,[.ref a]) s):wpAny (model X.prog X.w) A (getMethod (.ref a) m pl) Q E s:=by
 obtain⟨mA,O,r,_,_,_⟩:=mj I.hok e;have hn:mA m=none:=ax.none_of (by rw[<-l];exact r m);exact yc I.kIn O (c.get m) k.at_ k.fn hn h
theorem pZ {y:V}{u:Value}{Q:Unit->Shared->Prop}(I:j7 X pins σ H s)(e:H a=some (.ins C dx fs))(c:kZ X.K C)(n:t8 X.K C f)(hl:fs.length<1000)(ry:A0 y u)
  (h:∀ s',j7 X pins σ (i8 H a (.ins C dx (C3 f y fs))) s'->Q () s'):wpAny (model X.prog X.w) A (setAttr (.ref a) f u) Q E s:=by
 obtain⟨mA,O,r,wi,_,ho⟩:=mj I.hok e;have hz:(fs.map (·.1)).length<=sizeLine:=by rw[List.length_map,sizeLine_eq];omega
 refine yT I.kIn O c.sa c.po n.taker c.hd wi hz λh' O' sb=>h _ ?_;have hd:∃ o,h'.get? dx=some o:=let⟨o,_,_,e',_⟩:=O'.ns;⟨o,e'⟩;refine I.write (x:=a) (e:=dx) (by rw[e];exact True.intro) (.inr ho) (λb q hb z=>(sb.2 b hb).trans z) hd ?_;refine⟨by rw[i0 O.ne];exact ho,?_,O.ne,O'.obj,_,O'.ns,λg=>?_,λg hg=>?_⟩
 ·have:=gA f y fs;omega
 ·show ax ((C3 f y fs).lookup g) (if g=f then some u else mA g);rw[cz];by_cases q:g=f
  ·rw[if_pos q,if_pos q];exact ry
  ·rw[if_neg q,if_neg q];exact r g
 ·by_cases q:g=f
  ·rw[q];exact(af f y fs).1
  ·refine(af f y fs).2 g (wi g λz=>hg ?_);show(if g=f then some u else mA g)=none;rw[if_neg q];exact z
theorem j7.made (I:j7 X pins σ H s):j7 X pins σ (i8 (i8 H s.heap.objs.size (.own (s.heap.objs.size+1))) (s.heap.objs.size+1) (.ins C s.heap.objs.size []))
  { s with heap:=(s.heap.push W.emptyDict).push (W.instObj C s.heap.objs.size) }:=by
 have e1:(s.heap.push W.emptyDict).get? s.heap.objs.size=some W.emptyDict:=Heap.get?_push_size s.heap rfl;have e2:((s.heap.push W.emptyDict).push (W.instObj C s.heap.objs.size)).get? (s.heap.objs.size+1)=some (W.instObj C s.heap.objs.size):=by
  have:=Heap.get?_push_size (s.heap.push W.emptyDict) (o:=W.instObj C s.heap.objs.size) rfl;rwa[Heap.size_push]at this
 have e3:(s.heap.push W.emptyDict).Ns s.heap.objs.size (λ_=>none):=⟨W.emptyDict,#[],_,e1,rfl,(λe he=>absurd he (by simp)),λ_=>rfl⟩;have I1:=I.laid (a:=s.heap.objs.size) (o:=.own (s.heap.objs.size+1)) (h':=s.heap.push W.emptyDict) (t':=s.toks) (λb u q=>Heap.get?_push_of_some _ q) (Nat.le_refl _) ⟨_,e1⟩;refine I1.laid (a:=s.heap.objs.size+1) (o:=.ins C s.heap.objs.size []) (t':=s.toks) (λb u q=>Heap.get?_push_of_some _ q) (Nat.le_of_eq (Heap.size_push _ _)) ?_;have ne:s.heap.objs.size≠s.heap.objs.size+1:=Nat.ne_of_lt (Nat.lt_succ_self _);refine⟨by rw[i0 ne,c9],Nat.zero_le _,ne,e2,λ_=>none,(Heap.Ns1.of_empty e3).at λo q=>Heap.get?_push_of_some _ q,λ_=>True.intro,λy hy=>absurd rfl hy⟩
theorem sT {prog:Program}{w:World}{env:Env}{e:Expr}{f:Str}{pos:Pos}{s:Shared}{Q:Value->Shared->Prop}(hb:attributeBase e f env (eval e env)=eval e env)
  (h:wpAny (model prog w) A (eval e env) (λo s₁=>wpAny (model prog w) A (getAttr o f true) Q E s₁) E s):wpAny (model prog w) A (eval (.Attribute e f pos) env) Q E s :=
 Attribute_any_ h (by rw[arm_eval_Attribute,hb])
end
def Gq (K:W.Frag)(ta:TE)(f:Str):TE:=λσ H Q=>ta σ H λx H1=>∃ a C dx fs v,x=.ref a/\H1 a=some (.ins C dx fs)/\kZ K C/\t8 K C f/\fs.lookup f=some v/\Q v H1
def Gv (K:W.Frag)(ta tv:TE)(f:Str):TS:=λD σ H=>tv σ H λy H1=>ta σ H1 λx H2=>∃ a C dx fs,x=.ref a/\H2 a=some (.ins C dx fs)/\kZ K C/\t8 K C f/\fs.length<1000 /\
 D.nx σ (i8 H2 a (.ins C dx (C3 f y fs)))
section
variable {X:Cx}{o e value:Expr}{f:Str}{pos pos' tpos:Pos}{ta tv:TE}
theorem t9 (he:PE X e ta)(hb:attributeBase e f X.env (eval e X.env)=eval e X.env):PE X (.Attribute e f pos) (Gq X.K ta f):=by
 intro pins s σ H Q I h;refine sT hb (B9 (he pins s σ H _ I h) λu s1 ⟨x,H1,I1,rx,a,C,dx,fs,v,ex,ea,c,n,l,q⟩=>?_);subst ex;obtain rfl:u=Value.ref a:=rx;exact qC I1 ea c n l λu' s2 I2 ru=>⟨v,H1,I2,ru,q⟩
theorem C4 (ha:PE X o ta)(hv:PE X value tv)(hs:swapsWith value (some (.Attribute o f pos')) pos.line X.env=pure false):PS X (.Assign [.Attribute o f pos'] value pos) (Gv X.K ta tv f):=by
 intro pins s σ H D I h;refine plainObj_wpAny_Assign_Attribute (B9 (hv pins s σ H _ I h) λu s1 ⟨y,H1,I1,ry,q⟩=>B9 (ha pins s1 σ H1 _ I1 q) λov s2 ⟨x,H2,I2,rx,a,C,dx,fs,ex,ea,c,n,l,q2⟩=>?_) hs;subst ex;obtain rfl:ov=Value.ref a:=rx;exact pZ I2 ea c n l ry λs3 I3=>⟨σ,_,I3,q2⟩
theorem Bh {pl:Sem Bool}{m:Str}{apos:Pos}{args:List Expr}{pins:List (Addr×Obj)}{s:Shared}{σ:St}{H:Hp}{Q:Value->Shared->Prop}{te:TE}(he:PE X e te)(I:j7 X pins σ H s)
  (h:te σ H λx H1=>∃ a C dx fs g,x=.ref a/\H1 a=some (.ins C dx fs)/\kZ X.K C/\uS X.K C m g/\fs.lookup m=none /\
   ∀ s1,j7 X pins σ H1 s1->wpAny (model X.prog X.w) X.A (callWith pos (.ref g) [.ref a] (backTo pos (starEach args X.env)) (backToKw pos (keywordEach [] X.env))) Q X.xe s1)
  (ht:eval (.Call (.Attribute e m apos) args [] pos) X.env=(do
   let ov ← eval e X.env
   standAt apos.atName
   let(f,first) ← holding [ov] (getMethod ov m pl)
   callWith pos f first (backTo pos (starEach args X.env)) (backToKw pos (keywordEach [] X.env)))) :
  wpAny (model X.prog X.w) X.A (eval (.Call (.Attribute e m apos) args [] pos) X.env) Q X.xe s:=by
 refine W.methodCall_KW (pl:=pl) (B9 (he pins s σ H _ I h) λu s1 ⟨x,H1,I1,rx,a,C,dx,fs,g,ex,ea,c,k,l,q⟩=>?_) ht;subst ex;obtain rfl:u=Value.ref a:=rx;exact dS I1 ea c k l (q s1 I1)
end
structure F9 (k:Nat)(A:Around):Prop where
 hd:A.handled=none
 dp:A.depth+3*k+205<recursionLimit
 un:A.units+16*k+200<cLine
theorem F9.mono {j k:Nat}{A:Around}(r:F9 k A)(h:j<=k):F9 j A:=⟨r.hd,by have:=r.dp;omega,by have:=r.un;omega⟩
theorem F9.deeper {k:Nat}{A:Around}(r:F9 (k+1) A)(env:Env):F9 k (A.deeper env) :=
 ⟨r.hd,by have:=r.dp;show A.depth+1+3*k+205<_;omega,by have:=r.un;show A.units+3+16*k+200<_;omega⟩
theorem qu {A:Around}{C:Addr}{us:List Value}{kw:List (Str×Value)}:(A.under (.builtin "type.__call__" ⟨.ref C::us,kw⟩)).depth=A.depth+1:=by
 first|rfl|simp[Around.under,Code.weight,Code.isCreation,Code.isGuard,Code.isCaller,Code.frames,Code.isFrame,guardIds]
theorem qt {A:Around}{C:Addr}{us:List Value}{kw:List (Str×Value)}:(A.under (.builtin "type.__call__" ⟨.ref C::us,kw⟩)).units=A.units+1:=by
 first|rfl|simp[Around.under,Code.cUnits,Code.frames,Code.isFrame]
theorem F9.make {k:Nat}{A:Around}(r:F9 (k+1) A)(C:Addr)(us:List Value)(kw:List (Str×Value)):F9 k (A.under (.builtin "type.__call__" ⟨.ref C::us,kw⟩)) :=
 ⟨r.hd,by have:=r.dp;rw[qu];omega,by have:=r.un;rw[qt];omega⟩
theorem F9.depth {k:Nat}{A:Around}(r:F9 k A):A.depth<recursionLimit:=by have:=r.dp;omega
theorem F9.units {k:Nat}{A:Around}(r:F9 k A):A.units+64<cLine:=by have:=r.un;omega
def fH:TA:=λ_ H Q=>Q [] H
def J8 (ta:TE)(tr:TA):TA:=λσ H Q=>ta σ H λx H1=>tr σ H1 λxs H2=>Q (x::xs) H2
section
variable {X:Cx}{e:Expr}{es:List Expr}{te:TE}{t:TA}{pos:Pos}
theorem d4:PA X [] fH:=λ_ _ _ _ H Q I h=>Calls.spliced_nil ⟨[],H,I,.nil,h⟩
theorem c7 (ha:PE X e te)(hr:PA X es t)(hs:starEach (e::es) X.env=(false,eval e X.env)::starEach es X.env:=by rfl):PA X (e::es) (J8 te t):=by
 intro pos pins s σ H Q I h;rw[hs];show wpAny _ _ (spliced ((false,eval e X.env)::backTo pos (starEach es X.env))) _ _ s;refine Calls.spliced_cons (B9 (ha pins s σ H _ I h) λu s1 ⟨x,H1,I1,r1,q1⟩=>?_);exact B9 (hr pos pins s1 σ H1 _ I1 q1) λus s2 ⟨xs,H2,I2,r2,q2⟩=>⟨x::xs,H2,I2,.cons r1 r2,q2⟩
def vO (t:TA):TE:=λσ H Q=>t σ H λxs H1=>xs.length<=sizeLine/\∀ p,H1 p=none->Q (.ref p) (i8 H1 p (.tup xs))
def ER (t:TA):TE:=λσ H Q=>t σ H λxs H1=>xs.length<=sizeLine/\∀ p,H1 p=none->Q (.ref p) (i8 H1 p (.lst xs))
theorem z9 {x1}(h:PA X es t):PE X (.Tuple es x1 pos) (vO t):=by
 intro pins s σ H Q I hq;refine wpAny_Tuple_spliced (B9 (h pos pins s σ H _ I hq) λus s1 ⟨xs,H1,I1,r,z,q⟩=>⟨by rw[<-r.length];exact z,?_⟩);have hf:H1 s1.heap.objs.size=none:=I1.hok.fresh (Nat.le_refl _);refine⟨.ref s1.heap.objs.size,i8 H1 s1.heap.objs.size (.tup xs),I1.laid (t':=s1.toks) (λb u e=>Heap.get?_push_of_some _ e) (Nat.le_refl _) ?_,rfl,q _ hf⟩;exact⟨z,us,r,⟨_,Heap.get?_push_size _ rfl,rfl,_,rfl⟩⟩
theorem C5 (h:PA X es t):PE X (.List es pos) (ER t):=by
 intro pins s σ H Q I hq;refine wpAny_List_spliced (B9 (h pos pins s σ H _ I hq) λus s1 ⟨xs,H1,I1,r,z,q⟩=>⟨by rw[<-r.length];exact z,?_⟩);have hf:H1 s1.heap.objs.size=none:=I1.hok.fresh (Nat.le_refl _);refine⟨.ref s1.heap.objs.size,i8 H1 s1.heap.objs.size (.lst xs),I1.laid (t':=s1.toks) (λb u e=>Heap.get?_push_of_some _ e) (Nat.le_refl _) ?_,rfl,q _ hf⟩;exact⟨z,us,0,r,Heap.get?_push_size _ rfl⟩
end
abbrev Sp:=List V->Hp->VK->XK->Prop
abbrev yD:=List Env->Hp->Shared->XK->Value->Shared->Prop
structure pF (P:Program)(w:World)(K:W.Frag)(mg:Str->Option Value)(base:Heap)(A:Around)(outer:List Env)(s:Shared)(H:Hp):Prop where
 frames:A.frames=some outer
 mod:Mod K mg base
 bs:∀ b o,base.get? b=some o->s.heap.get? b=some o/\H b=none
 bsz:base.objs.size<=s.heap.objs.size
 funs:s.heap.FunFrames base outer
 frf:∀ b∈qE outer,H b=none
 hok:ay P w H s.heap
 bare:AllBare s.gens
def CE (outer:List Env)(P:Program)(w:World)(H:Hp)(s:Shared)(Q:VK)(u:Value)(s':Shared):Prop :=
 ∃ v H',s'.os=s.os/\AllBare s'.gens/\Un (qE outer) [] H H' s.heap s'.heap/\ay P w H' s'.heap/\A0 v u/\Q v H'
def CR (CX:yD)(outer:List Env)(P:Program)(w:World)(H:Hp)(s:Shared)(Q:VK)(E:XK)(r:Result)(s':Shared):Prop :=
 match r with
 |.ok (.ret u)=>CE outer P w H s Q u s'
 |.ok _=>False
 |.error e=>CX outer H s E e s'
structure o8 (P:Program)(w:World)(K:W.Frag)(mg:Str->Option Value)(base:Heap)(CX:yD)(k:Nat)(f:Addr)(fd:FuncData)(ps:List Str)(sp:Sp):Prop where
 len:∀ vs H Q E,sp vs H Q E->vs.length=ps.length
 run:∀ (A:Around) (outer:List Env) (s:Shared) (H:Hp) (args:Args) (us:List Value) (vs:List V) (Q:VK) (E:XK),F9 k A->pF P w K mg base A outer s H->BindsTo s fd args (ps.zip us)->x9 vs us->sp vs H Q E ->
  codeAny (model P w) A (.call (.ref f) args) (CR CX outer P w H s Q E) s
theorem pF.make {P:Program}{w:World}{K:W.Frag}{mg:Str->Option Value}{base:Heap}{A:Around}{outer:List Env}{s:Shared}{H:Hp}(e:pF P w K mg base A outer s H)(C:Addr)(us:List Value)(kw:List (Str×Value)) :
  pF P w K mg base (A.under (.builtin "type.__call__" ⟨.ref C::us,kw⟩)) outer s H:=⟨by first|exact e.frames|(simpa[Around.under,Code.envs,Code.isFrame,pushEnvs]using e.frames),e.mod,e.bs,e.bsz,e.funs,e.frf,e.hok,e.bare⟩
section
variable {X:Cx}{pins:List (Addr×Obj)}{σ:St}{H:Hp}{s s':Shared}
theorem j7.env0 (I:j7 X pins σ H s):pF X.prog X.w X.K X.mg X.base X.A X.stack s H :=
 ⟨I.ok.frames,I.ok.mod,I.bs,Nat.le_trans I.ok.bsz I.sz,I.stack,I.stkFree,I.hok,I.bare⟩
theorem j7.after {Q:VK}{u:Value}(I:j7 X pins σ H s)(h:CE X.stack X.prog X.w H s Q u s'):EP X pins σ Q u s':=by
 obtain⟨v,H',os,bare,un,hok,r,q⟩:=h;obtain⟨hh,g,d,t,os'⟩:=s';obtain rfl:os'=s.os:=os;exact⟨v,H',I.call (h':=hh) (g':=g) (d':=d) (t':=t) (ch:=[]) un hok bare (λb z=>absurd z (by simp)),r,q⟩
end
def rg (sp:Sp)(dvs:List V)(E:XK)(t:TA):TE:=λσ H Q=>t σ H λvs H1=>sp (vs++dvs) H1 Q E
def rb (C:Addr)(m:Str)(sp:Sp)(dvs:List V)(E:XK)(ta:TE)(t:TA):TE:=λσ H Q=>ta σ H λx H1=>∃ a dx fs,x=.ref a/\H1 a=some (.ins C dx fs)/\fs.lookup m=none /\
 t σ H1 λvs H2=>sp (x::(vs++dvs)) H2 Q E
def AN (C:Addr)(sp:Sp)(dvs:List V)(E:XK)(t:TA):TE:=λσ H Q=>t σ H λvs H1=>∀ x dx,H1 x=none->H1 dx=none->dx≠x ->
 sp (.ref x::(vs++dvs)) (i8 (i8 H1 dx (.own x)) x (.ins C dx [])) (λv H2=>v=.non/\Q (.ref x) H2) E
def V1 (K:W.Frag)(fd:FuncData)(ps:List Str)(ds:List Value):Prop :=
 ∀ (s:Shared) (us:List Value),K.In s.heap->(us++ds).length=ps.length->BindsTo s fd ⟨us,[]⟩ (ps.zip (us++ds))
theorem V1.all {K:W.Frag}{fd:FuncData}{ps:List Str}(h:∀ us:List Value,us.length=ps.length->bindArgs fd ⟨us,[]⟩=pure (ps.zip us)):V1 K fd ps []:=λs us _ hl=>by
 rw[List.append_nil]at hl⊢;exact .of_eq (h us hl)
def F6 (CX:yD)(X:Cx)(E:XK):Prop:=∀ (pins:List (Addr×Obj)) (σ:St) (H:Hp) (s:Shared) (e:Value) (s':Shared),j7 X pins σ H s->CX X.stack H s E e s'->X.xe e s'
section
variable {X:Cx}{CX:yD}{k:Nat}{f C:Addr}{fd:FuncData}{ps:List Str}{sp:Sp}{dvs:List V}{ds:List Value}{E:XK}{x m:Str}{p pos apos:Pos}{e o:Expr}{es:List Expr}{ta:TE}{t:TA}
theorem qf {pins:List (Addr×Obj)}{σ:St}{H:Hp}{s:Shared}{Q:VK}{us:List Value}{vs:List V}(F:o8 X.prog X.w X.K X.mg X.base CX k f fd ps sp)(hr:F9 k X.A)(hb:V1 X.K fd ps ds)(hd:x9 dvs ds)(hx:F6 CX X E)
  (I:j7 X pins σ H s) (r:x9 vs us) (h:sp (vs++dvs) H Q E):wpAny (model X.prog X.w) X.A (call (.ref f) us) (EP X pins σ Q) X.xe s:=by
 have r2:x9 (vs++dvs) (us++ds):=r.append hd;have hl:(us++ds).length=ps.length:=by rw[<-r2.length];exact F.len _ _ _ _ h
 refine wpAny_call (codeAny_mono (F.run X.A X.stack s H ⟨us,[]⟩ (us++ds) (vs++dvs) Q E hr I.env0 (hb s us I.kIn hl) r2 h) λr s' hq=>?_);cases r with
 |error e=>exact hx pins σ H s e s' I hq
 |ok fl =>
  cases fl with
  |ret u=>exact I.after hq
  |next=>exact False.elim hq
  |brk=>exact False.elim hq
  |cont=>exact False.elim hq
theorem zm (F:o8 X.prog X.w X.K X.mg X.base CX k f fd ps sp)(hr:F9 k X.A)(hg:Gl X x)(hm:X.mg x=some (.ref f))(hk:W.keepIn X.K (.ref f)=true)(hb:V1 X.K fd ps ds)(hd:x9 dvs ds)(hx:F6 CX X E)
  (ha:PA X (e::es) t) (hdb:(x==("__debug__" : Str))=false:=by decide) (he:starEach (e::es) X.env=(false,eval e X.env)::starEach es X.env:=by rfl) (hpl:(backTo pos (starEach es X.env)).any (·.1)=false:=by rfl) :
  PE X (.Call (.Name x p) (e::es) [] pos) (rg sp dvs E t):=by
 intro pins s σ H Q I h;refine wpAny_Call_Name_kw (cV I hg hm ?_ hdb);refine W.callWith_K (h₀:=X.base) I.ok.mod.kin hk (B9 (ha pos pins s σ H _ I h) λus s1 ⟨vs,H1,I1,r,q⟩=>⟨I1.kIn,?_⟩) he hpl;exact qf F hr hb hd hx I1 r q
theorem zh {pl:Sem Bool}(he:PE X o ta)(c:kZ X.K C)(hm:uS X.K C m f)(F:o8 X.prog X.w X.K X.mg X.base CX k f fd ps sp)(hr:F9 k X.A)(hb:V1 X.K fd ps ds)(hd:x9 dvs ds)(hx:F6 CX X E)(ha:PA X (e::es) t)
  (hst:starEach (e::es) X.env=(false,eval e X.env)::starEach es X.env:=by rfl) (hpl:(backTo pos (starEach es X.env)).any (·.1)=false:=by rfl)
  (ht:eval (.Call (.Attribute o m apos) (e::es) [] pos) X.env=(do
   let ov ← eval o X.env
   standAt apos.atName
   let(f,first) ← holding [ov] (getMethod ov m pl)
   callWith pos f first (backTo pos (starEach (e::es) X.env)) (backToKw pos (keywordEach [] X.env))):=by rfl) :
  PE X (.Call (.Attribute o m apos) (e::es) [] pos) (rb C m sp dvs E ta t):=by
 intro pins s σ H Q I h;refine W.methodCall_KW (pl:=pl) (B9 (he pins s σ H _ I h) λu s1 ⟨x,H1,I1,rx,a,dx,fs,ex,ea,l,q⟩=>?_) ht;subst ex;obtain rfl:u=Value.ref a:=rx;refine dS I1 ea c hm l ?_;refine W.callWith_K (first:=[.ref a]) (h₀:=X.base) I.ok.mod.kin hm.kp (B9 (ha pos pins s1 σ H1 _ I1 q) λus s2 ⟨vs,H2,I2,r,q2⟩=>⟨I2.kIn,?_⟩) hst hpl;exact qf (us:=.ref a::us) (vs:=.ref a::vs) F hr hb hd hx I2 (.cons rfl r) q2
theorem wQ {pl:Sem Bool}(he:PE X o ta)(c:kZ X.K C)(hm:uS X.K C m f)(F:o8 X.prog X.w X.K X.mg X.base CX k f fd ps sp)(hr:F9 k X.A)(hb:V1 X.K fd ps ds)(hd:x9 dvs ds)(hx:F6 CX X E)
  (ht:eval (.Call (.Attribute o m apos) [] [] pos) X.env=(do
   let ov ← eval o X.env
   standAt apos.atName
   let(f,first) ← holding [ov] (getMethod ov m pl)
   callWith pos f first (backTo pos (starEach [] X.env)) (backToKw pos (keywordEach [] X.env))):=by rfl) :
  PE X (.Call (.Attribute o m apos) [] [] pos) (rb C m sp dvs E ta fH):=by
 intro pins s σ H Q I h;refine W.methodCall_KW (pl:=pl) (B9 (he pins s σ H _ I h) λu s1 ⟨x,H1,I1,rx,a,dx,fs,ex,ea,l,q⟩=>?_) ht;subst ex;obtain rfl:u=Value.ref a:=rx;refine dS I1 ea c hm l ?_;exact W.callWith_K0 (first:=[.ref a]) I1.kIn hm.kp (qf (us:=[.ref a]) (vs:=[.ref a]) F hr hb hd hx I1 (.cons rfl .nil) q)
structure Mk (K:W.Frag)(C f:Addr):Prop where
 makes:W.makesIn K C=true
 init:W.findIn K (.ref C) "__init__"=some (some (.ref f))
 fn:W.isFn K (.ref f)=true
 kp:W.keepIn K (.ref C)=true
theorem wG {pins:List (Addr×Obj)}{σ:St}{H:Hp}{s:Shared}{Q:VK}{us:List Value}{vs:List V}(M:Mk X.K C f)(F:o8 X.prog X.w X.K X.mg X.base CX k f fd ps sp)(hr:F9 (k+1) X.A)(hb:V1 X.K fd ps ds)(hd:x9 dvs ds)
  (hx:F6 CX X E) (I:j7 X pins σ H s) (r:x9 vs us)
  (h:∀ x dx,H x=none->H dx=none->dx≠x->sp (.ref x::(vs++dvs)) (i8 (i8 H dx (.own x)) x (.ins C dx [])) (λv H2=>v=.non/\Q (.ref x) H2) E) :
  wpAny (model X.prog X.w) X.A (call (.ref C) us) (EP X pins σ Q) X.xe s:=by
 have hq:=h (s.heap.objs.size+1) s.heap.objs.size (I.hok.fresh (Nat.le_succ _)) (I.hok.fresh (Nat.le_refl _)) (Nat.ne_of_lt (Nat.lt_succ_self _));have I2:=j7.made (C:=C) I;have r2:x9 (V.ref (s.heap.objs.size+1)::(vs++dvs)) (Value.ref (s.heap.objs.size+1)::(us++ds)):=.cons rfl (r.append hd);have hl:(Value.ref (s.heap.objs.size+1)::us++ds).length=ps.length:=by
  have e:=r2.length;rw[F.len _ _ _ _ hq]at e;exact e.symm
 refine wpAny_call (xA (f:=f) I.kIn M.makes M.init (beq_iff_eq.mp M.fn) (codeAny_mono (F.run _ X.stack _ _ ⟨Value.ref (s.heap.objs.size+1)::us,[]⟩ (Value.ref (s.heap.objs.size+1)::(us++ds)) _ _ E (hr.make C us [])
  (I2.env0.make C us []) (hb _ (Value.ref (s.heap.objs.size+1)::us) I2.kIn hl) r2 hq) λr s' hq'=>?_))
 cases r with
 |error e=>exact hx pins σ _ _ e s' I2 hq'
 |ok fl =>
  cases fl with
  |ret u =>
   obtain⟨v,H',I3,rv,ev,q3⟩:=I2.after hq';subst ev;exact⟨rv,⟨V.ref (s.heap.objs.size+1),H',I3,rfl,q3⟩⟩
  |next=>exact False.elim hq'
  |brk=>exact False.elim hq'
  |cont=>exact False.elim hq'
theorem zj (M:Mk X.K C f)(F:o8 X.prog X.w X.K X.mg X.base CX k f fd ps sp)(hr:F9 (k+1) X.A)(hg:Gl X x)(hm:X.mg x=some (.ref C))(hb:V1 X.K fd ps ds)(hd:x9 dvs ds)(hx:F6 CX X E)
  (ha:PA X (e::es) t) (hdb:(x==("__debug__" : Str))=false:=by decide) (he:starEach (e::es) X.env=(false,eval e X.env)::starEach es X.env:=by rfl) (hpl:(backTo pos (starEach es X.env)).any (·.1)=false:=by rfl) :
  PE X (.Call (.Name x p) (e::es) [] pos) (AN C sp dvs E t):=by
 intro pins s σ H Q I h;refine wpAny_Call_Name_kw (cV I hg hm ?_ hdb);refine W.callWith_K (h₀:=X.base) I.ok.mod.kin M.kp (B9 (ha pos pins s σ H _ I h) λus s1 ⟨vs,H1,I1,r,q⟩=>⟨I1.kIn,?_⟩) he hpl;exact wG M F hr hb hd hx I1 r q
end
structure i6 (N P:List Str)(sc:Scope):Prop where
 kind:sc.kind=.function
 co:sc.isCoroutine=false
 gen:sc.isGenerator=false
 nd:N.Nodup
 pre:N.take P.length=P
 par:∀ x∈P,sc.names.lookup x=some .local \/sc.names.lookup x=some .cell
 nofree:∀ y∈sc.names,y.2≠.free
theorem kQ {kindOf:Str->Option NameKind}{x:Str}:∀ {binds:List (Str×Value)}{m:Str->Option Value},(∀ v,(x,v)∉binds)->bindL kindOf binds m x=m x
 |[],_,_=>rfl
 | (n,v)::r,m,h=>by
  unfold bindL;rw[kQ λw hw=>h w (List.mem_cons_of_mem _ hw)];split
  ·have:x≠n:=by rintro rfl;exact h v List.mem_cons_self
   simp[this]
  ·rfl
theorem kS {kindOf:Str->Option NameKind}{x:Str}:∀ {binds:List (Str×Value)}{m:Str->Option Value},(∀ v,(x,v)∉binds)->bindC kindOf binds m x=m x
 |[],_,_=>rfl
 | (n,v)::r,m,h=>by
  unfold bindC;rw[kS λw hw=>h w (List.mem_cons_of_mem _ hw)];split
  ·rfl
  ·have:x≠n:=by rintro rfl;exact h v List.mem_cons_self
   simp[this]
theorem kR {kindOf:Str->Option NameKind}{x:Str}{v:Value}:∀ {P:List Str}{vs:List Value}{i:Nat}{m:Str->Option Value},P.Nodup->P[i]?=some x->vs[i]?=some v->kindOf x=some .local ->
  bindL kindOf (P.zip vs) m x=some v
 |[],_,_,_,_,h,_,_=>by simp at h
 |_::_,[],_,_,_,_,h,_=>by simp at h
 |p::P,w::vs,0,m,nd,h1,h2,hk=>by
  simp at h1 h2;subst h1;subst h2;show bindL kindOf ((p,w)::P.zip vs) m p=_;unfold bindL;rw[kQ λv hv=>(List.nodup_cons.mp nd).1 (List.of_mem_zip hv).1,if_pos hk];simp
 |p::P,w::vs,i+1,m,nd,h1,h2,hk=>by
  show bindL kindOf ((p,w)::P.zip vs) m x=_;unfold bindL;exact kR (i:=i) (List.nodup_cons.mp nd).2 (by simpa using h1) (by simpa using h2) hk
theorem kT {kindOf:Str->Option NameKind}{x:Str}{v:Value}:∀ {P:List Str}{vs:List Value}{i:Nat}{m:Str->Option Value},P.Nodup->P[i]?=some x->vs[i]?=some v->kindOf x≠some .local ->
  bindC kindOf (P.zip vs) m x=some v
 |[],_,_,_,_,h,_,_=>by simp at h
 |_::_,[],_,_,_,_,h,_=>by simp at h
 |p::P,w::vs,0,m,nd,h1,h2,hk=>by
  simp at h1 h2;subst h1;subst h2;show bindC kindOf ((p,w)::P.zip vs) m p=_;unfold bindC;rw[kS λv hv=>(List.nodup_cons.mp nd).1 (List.of_mem_zip hv).1,if_neg hk];simp
 |p::P,w::vs,i+1,m,nd,h1,h2,hk=>by
  show bindC kindOf ((p,w)::P.zip vs) m x=_;unfold bindC;exact kT (i:=i) (List.nodup_cons.mp nd).2 (by simpa using h1) (by simpa using h2) hk
def start (N:List Str)(vs:List V):St:=vs.map some++List.replicate (N.length-vs.length) none
def dj (CX:yD)(P:Program)(w:World)(K:W.Frag)(mg:Str->Option Value)(base:Heap)(N:List Str)(qual:Str)(scope:Scope)(f:Addr)(cd:Value)(A:Around)(outer:List Env)(s:Shared)(H:Hp)(E:XK):Cx where
 prog:=P
 w:=w
 K:=K
 mg:=mg
 base:=base
 A:=A.deeper (envOfC qual scope s.heap.objs.size f cd)
 N:=N
 s_0:=s
 H_0:=H
 env:=envOfC qual scope s.heap.objs.size f cd
 outer:=outer
 stack:=envOfC qual scope s.heap.objs.size f cd::outer
 ex:=[]
 calm:=true
 fn:=λ_=>true
 pn:=[]
 xe:=λe s'=>wpAny (model P w) (A.deeper (envOfC qual scope s.heap.objs.size f cd)) (leaving (envOfC qual scope s.heap.objs.size f cd) e) (λ_ s''=>CX outer H s E e s'') (λe' s''=>CX outer H s E e' s'') s'
theorem pB {sc:Scope}{n:Nat}{x:Str}(h:sc.names.lookup x=some .cell):∃ c,(cellsFrom n sc.names []).lookup x=some c:=by
 have q:=W.cellsFrom_some sc.names n [] (.inl h);exact Option.isSome_iff_exists.mp q
theorem kJ {CX:yD}{P:Program}{w:World}{K:W.Frag}{mg:Str->Option Value}{base:Heap}{N ps:List Str}{qual:Str}{scope:Scope}{f:Addr}{cd:Value}{A:Around}{outer:List Env}{s s1:Shared}{H:Hp}{E:XK}{us:List Value}{vs:List V}
  (S:i6 N ps scope) (hd:A.handled=none) (e0:pF P w K mg base A outer s H) (hl:vs.length=ps.length) (r:x9 vs us)
  (x:InCallC s s.heap.objs.size (bindL (envOfC qual scope s.heap.objs.size f cd).kindOf (ps.zip us) λ_=>none) (cellsFrom (s.heap.objs.size+1) scope.names []) (bindC (envOfC qual scope s.heap.objs.size f cd).kindOf (ps.zip us) λ_=>none) s1) :
  j7 (dj CX P w K mg base N qual scope f cd A outer s H E) [] (start N vs) H s1:=by
 have hpl:ps.length<=N.length:=by have:=congrArg List.length S.pre;rw[List.length_take]at this;omega
 obtain⟨h1,tk,rfl,hk⟩:=x.done;have noA:∀ b:Addr,b∉(dj CX P w K mg base N qual scope f cd A outer s H E).ex:=λb z=>absurd (show b∈([]:List Addr) from z) (by simp);refine⟨⟨e0.mod,S.kind,rfl,rfl,Nat.le_refl _,λy z c h1 h2=>?_,λy hy=>?_,λy c _ h=>?_,λ_=>hd,Around.frames_deeper e0.frames,.inr ⟨rfl,rfl⟩,λb z=>absurd z (noA b),e0.bs,e0.bsz,λb _ _=>noA b,λb z=>absurd z (noA b),e0.funs,e0.frf⟩,
  rfl,e0.bare,Un.kept hk,⟨_,x.toInCall.ns,λi y v h1 h2 h3=>?_⟩,λy c h=>⟨_,x.cell y c h⟩,e0.hok.fresh (Nat.le_refl _),λy c h=>?_,λp hp=>absurd (show p∈([]:List (Addr×Obj)) from hp) (by simp),e0.hok.kept hk,?_⟩
 ·exact name_of_addr x.apart (PySem.mem_of_lookup h1) (PySem.mem_of_lookup h2)
 ·have hy:scope.names.lookup y=some .cell\/scope.names.lookup y=some .free:=hy;rcases hy with hy|hy
  ·exact pB hy
  ·exact absurd rfl (S.nofree _ (PySem.mem_of_lookup hy))
 ·exact Nat.le_of_lt (x.above y c (PySem.mem_of_lookup h))
 ·have hi:i<vs.length:=by
   unfold start at h2;by_cases hi:i<vs.length
   ·exact hi
   ·rw[List.getElem?_append_right (by simpa using hi)]at h2;rw[List.getElem?_replicate]at h2;split at h2<;>cases h2
  have ha:vs[i]?=some v:=by
   unfold start at h2;rw[List.getElem?_append_left (by simpa using hi),List.getElem?_map]at h2;cases e:vs[i]? with
   |none=>rw[e]at h2;cases h2
   |some a=>rw[e]at h2;cases h2;rfl
  obtain⟨u,hu,rv⟩:=r.get ha;have hp:ps[i]?=some y:=by
   rw[<-S.pre,List.getElem?_take_of_lt (by omega)];exact h1
  have ndP:ps.Nodup:=by rw[<-S.pre];exact S.nd.sublist (List.take_sublist _ _)
  refine⟨u,rv,?_⟩;rcases S.par y (List.mem_of_getElem? hp)with k|k
  ·exact .inl ⟨k,kR ndP hp hu k⟩
  ·obtain⟨c,e⟩:=pB (n:=s.heap.objs.size+1) k;refine .inr ⟨.inl k,c,e,?_⟩;have q:=x.cell y c e;rw[kT ndP hp hu (by show scope.names.lookup y≠_;rw[k];decide)]at q;exact q
 ·exact e0.hok.fresh (Nat.le_of_lt (x.above y c (PySem.mem_of_lookup h)))
 ·unfold start;show _=N.length;rw[List.length_append,List.length_map,List.length_replicate];omega
theorem Bk {CX:yD}{P:Program}{w:World}{K:W.Frag}{mg:Str->Option Value}{base:Heap}{k:Nat}{f:Addr}{name qual:Str}{params:Arguments}{body:List Stmt}{scope:Scope}{dV kV doc pm cdv ct oc:Value}{an od:Option Addr}
  {osl:Array (Option Value)}{N ps:List Str}{sp:Sp} (lk:K.lookup f=some ⟨oc,od,.func (W.fnOf name qual params body scope dV kV doc pm an cdv ct),osl⟩) (hcd:W.codeIn K cdv qual=true) (S:i6 N ps scope)
  (len:∀ vs H Q E,sp vs H Q E->vs.length=ps.length)
  (hbody:∀ (A:Around) (outer:List Env) (s:Shared) (H:Hp) (vs:List V) (Q:VK) (E:XK),F9 k (A.deeper (envOfC qual scope s.heap.objs.size f cdv))->sp vs H Q E ->
   ∃ t,pJ (dj CX P w K mg base N qual scope f cdv A outer s H E) body t/\t { nx:=λ_ H'=>Q .non H',rt:=Q } (start N vs) H) :
  o8 P w K mg base CX (k+1) f (W.fnOf name qual params body scope dV kV doc pm an cdv ct) ps sp:=by
 refine⟨len,λA outer s H args us vs Q E hr e0 hb r hsp=>?_⟩;have hl:=len _ _ _ _ hsp;have KX:K.In s.heap:=e0.mod.kin.keeps λb o e=>(e0.bs b o e).1;have lim:s.heap.NoLimit:=e0.mod.nolimit.keeps λb o e=>(e0.bs b o e).1;have hkind:∀ y∈ps.zip us,scope.names.lookup y.1=some .local \/(scope.names.lookup y.1=some .cell/\((cellsFrom (s.heap.objs.size+1) scope.names []).lookup y.1).isSome=true):=λ⟨n,v⟩ hy=>by
  rcases S.par n (List.of_mem_zip hy).1 with q|q
  ·exact .inl q
  ·exact .inr ⟨q,W.cellsFrom_some _ _ _ (.inl q)⟩
 refine codeAny_call_function hr.depth (KX _ _ lk) rfl S.co S.gen rfl (W.codeRec_of KX hcd) (hb _ _ _ _ ?_);refine wpAny_newFunctionEnv_cells S.kind hkind λenv he s1 x=>?_;subst he;refine⟨lim.keeps x.toInCall.keep,codeAny_func ?_⟩;obtain⟨t,ht,hq⟩:=hbody A outer s H vs Q E (hr.deeper _) hsp;have I:j7 (dj CX P w K mg base N qual scope f cdv A outer s H E) [] (start N vs) H s1:=kJ S hr.hd e0 hl r x;refine wpAny_mono (ht [] s1 (start N vs) H _ I hq) (λfl s' hs=>?_) λe s' hs=>hs;have fin:∀ {σ':St}{H':Hp}{v:V}{u:Value},j7 (dj CX P w K mg base N qual scope f cdv A outer s H E) [] σ' H' s'->A0 v u->Q v H'->CE outer P w H s Q u s' :=
  λ{σ' H' v u} J rv q=>⟨v,H',J.os,J.bare,J.base,J.hok,rv,q⟩
 cases fl with
 |ret u =>
  obtain⟨v,σ',H',J,rv,q⟩:=hs;exact fin J rv q
 |next =>
  obtain⟨σ',H',J,q⟩:=hs;exact fin (v:=V.non) (u:=Value.none) J rfl q
 |brk =>
  obtain⟨_,_,_,q⟩:=hs;exact False.elim q
 |cont =>
  obtain⟨_,_,_,q⟩:=hs;exact False.elim q
section
variable {X:Cx}{x:Str}{p pos:Pos}{e:Expr}{es:List Expr}{t:TA}{id T:String}{r:List V->Hp->VK->Prop}
def Hg (r:List V->Hp->VK->Prop)(t:TA):TE:=λσ H Q=>t σ H λvs H1=>r vs H1 Q
theorem A6 (hc:gK X (.builtin id) r)(hg:Gl X x)(hm:X.mg x=none)(hv:bootBuiltins x=some (.builtin id))(ha:PA X (e::es) t)(hn:x≠"__name__":=by decide)(hdb:(x==("__debug__" : Str))=false:=by decide)
  (he:starEach (e::es) X.env=(false,eval e X.env)::starEach es X.env:=by rfl) (hpl:(backTo pos (starEach es X.env)).any (·.1)=false:=by rfl):PE X (.Call (.Name x p) (e::es) [] pos) (Hg r t):=by
 intro pins s σ H Q I h;refine wpAny_Call_Name_kw (jl I hg hm hv ?_ hn hdb);exact PyProof.Rows.callWith_builtin1 (B9 (ha pos pins s σ H _ I h) λus s1 ⟨vs,H1,I1,r1,q1⟩=>hc pins s1 σ H1 vs us Q I1 r1 q1) he hpl
theorem S3 (hc:gK X (.type T) r)(hg:Gl X x)(hm:X.mg x=none)(hv:bootBuiltins x=some (.type T))(ha:PA X (e::es) t)(hn:x≠"__name__":=by decide)(hdb:(x==("__debug__" : Str))=false:=by decide)
  (he:starEach (e::es) X.env=(false,eval e X.env)::starEach es X.env:=by rfl) (hpl:(backTo pos (starEach es X.env)).any (·.1)=false:=by rfl):PE X (.Call (.Name x p) (e::es) [] pos) (Hg r t):=by
 intro pins s σ H Q I h;refine wpAny_Call_Name_kw (jl I hg hm hv ?_ hn hdb);exact PyProof.Rows.callWith_type1 (B9 (ha pos pins s σ H _ I h) λus s1 ⟨vs,H1,I1,r1,q1⟩=>hc pins s1 σ H1 vs us Q I1 r1 q1) he hpl
end
end L2
namespace HT
open PySem PyProof.Rows
section
variable {prog:Program}{w:World}{A:Around}{E:Value->Shared->Prop}{s:Shared}
def sIx (n d:Nat):Option Int->Nat
 |none=>d
 |some v=>if v<0 then(v+(n:Int)).toNat else min v.toNat n
theorem sIx_none (n d:Nat):sIx n d none=d:=rfl
theorem sIx_nat (n d k:Nat):sIx n d (some (k:Int))=min k n:=by
 show(if(k:Int)<0 then((k:Int)+(n:Int)).toNat else min (k:Int).toNat n)=min k n;rw[if_neg (by omega),Int.toNat_natCast]
end
end HT
namespace L2
open PySem PySem.Spec PyProof.Rows
abbrev TO:=St->Hp->(Option Int->Hp->Prop)->Prop
def PO (X:Cx)(e:Option Expr)(t:TO):Prop :=
 ∀ (pins:List (Addr×Obj)) (s:Shared) (σ:St) (H:Hp) (Q:Option Int->Hp->Prop),j7 X pins σ H s->t σ H Q ->
  wpAny (model X.prog X.w) X.A (evalPart e X.env) (λu s'=>∃ o H',j7 X pins σ H' s'/\IsPart u o/\Q o H') X.xe s
def yL:TO:=λ_ H Q=>Q none H
def vP (t:TE):TO:=λσ H Q=>t σ H λx H1=>∃ i,x=.int i/\Q (some i) H1
section
variable {X:Cx}{e:Expr}{te:TE}{lo hi:Option Expr}{tl th:TO}{pos p2:Pos}
theorem V7:PO X none yL:=by
 intro pins s σ H Q I h;rw[evalPart_none];exact wpAny_pure ⟨none,H,I,.none,h⟩
theorem J4 (h:PE X e te):PO X (some e) (vP te):=by
 intro pins s σ H Q I hw;rw[evalPart_some];refine B9 (h pins s σ H _ I hw) λu s1 ⟨x,H1,I1,r1,q1⟩=>?_;obtain⟨i,rfl,q⟩:=q1;obtain⟨t,rfl⟩:=r1;exact⟨some i,H1,I1,.int i t,q⟩
def Hm (X:Cx)(r:V->Option Int->Option Int->Hp->VK->Prop):Prop :=
 ∀ (pins:List (Addr×Obj)) (s:Shared) (σ:St) (H:Hp) (x:V) (v vl vu:Value) (lo hi:Option Int) (sl:Addr) (Q:VK),j7 X pins σ H s->A0 x v->s.heap.IsSliceOf sl vl vu .none->IsPart vl lo->IsPart vu hi->r x lo hi H Q ->
  ∃ T id,typeLookup (.type T) "__getitem__"=pure (some (.builtin id))/\s.TypeIs v T/\wpAny (model X.prog X.w) X.A (getItem v (.ref sl)) (EP X pins σ Q) X.xe s
def Hb (r:V->Option Int->Option Int->Hp->VK->Prop)(te:TE)(tl th:TO):TE:=λσ H Q=>te σ H λx H1=>tl σ H1 λl H2=>th σ H2 λu H3=>r x l u H3 Q
theorem K0 {r:V->Option Int->Option Int->Hp->VK->Prop}(hr:Hm X r)(he:PE X e te)(hl:PO X lo tl)(hu:PO X hi th):PE X (.Subscript e (.Slice lo hi none p2) pos) (Hb r te tl th):=by
 intro pins s σ H Q I h;refine Subscript_ (B9 (he pins s σ H _ I h) λv s1 ⟨x,H1,I1,r1,q1⟩=>?_);refine wpAny_Slice (B9 (hl pins s1 σ H1 _ I1 q1) λvl s2 ⟨l,H2,I2,pl,q2⟩=>B9 (hu pins s2 σ H2 _ I2 q2) λvu s3 ⟨u,H3,I3,pu,q3⟩=>?_);rw[evalPart_none];refine wpAny_pure ?_;have I4:j7 X pins σ H3 { s3 with heap:=s3.heap.push { cls:=.type "slice",data:=.fields #[vl,vu,.none] } }:=I3.kept (t':=s3.toks) λb ob q=>Heap.get?_push_of_some _ q;obtain⟨T,id,hT,ht,hg⟩:=hr pins { s3 with heap:=s3.heap.push { cls:=.type "slice",data:=.fields #[vl,vu,.none] } } σ H3 x v vl vu l u s3.heap.objs.size Q I4 r1 (Heap.IsSliceOf.new ..) pl pu q3;show wpAny (model X.prog X.w) X.A (subscriptTail e (.Slice lo hi none p2) v (.ref s3.heap.objs.size)) (EP X pins σ Q) X.xe { s3 with heap:=s3.heap.push { cls:=.type "slice",data:=.fields #[vl,vu,.none] } };exact tail_any (ops:=[.ref s3.heap.objs.size,v]) ht hT hg (by with_unfolding_all rfl)
def aq (xs:List V)(lo hi:Option Int):List V:=(xs.drop (HT.sIx xs.length 0 lo)).take (HT.sIx xs.length xs.length hi-HT.sIx xs.length 0 lo)
theorem pA (xs:List V)(lo hi:Option Int):(aq xs lo hi).length<=xs.length:=by
 unfold aq;rw[List.length_take,List.length_drop];omega
end
def Bi (n:Nat)(i:Int):Option Nat:=if 0<=i then(if i<n then some i.toNat else none)else if -(n:Int)<=i then some (i+n).toNat else none
def uU {α:Type}(xs:List α)(i:Int):Option α:=(Bi xs.length i).bind λj=>xs[j]?
theorem Ab {n:Nat}{i:Int}{j:Nat}(h:Bi n i=some j):seqIndex? i n=some j/\j<n/\ -(n:Int)<=i/\i<n:=by
 unfold Bi at h;by_cases h0:0<=i
 ·rw[if_pos h0]at h;by_cases h1:i<n
  ·rw[if_pos h1]at h;have e:i.toNat=j:=Option.some.inj h;exact⟨by rw[seqIndex_of h0 h1,e],by omega,by omega,h1⟩
  ·rw[if_neg h1]at h;cases h
 ·rw[if_neg h0]at h;by_cases h1:-(n:Int)<=i
  ·rw[if_pos h1]at h;have e:(i+n).toNat=j:=Option.some.inj h;exact⟨by rw[seqIndex_neg (by omega) h1,e],by omega,h1,by omega⟩
  ·rw[if_neg h1]at h;cases h
theorem sU {α:Type}{xs:List α}{i:Int}{v:α}(h:uU xs i=some v):∃ j,seqIndex? i xs.length=some j/\xs[j]?=some v/\j<xs.length/\ -(xs.length:Int)<=i/\i<xs.length:=by
 unfold uU at h;cases e:Bi xs.length i with
 |none=>rw[e]at h;cases h
 |some j =>
  rw[e]at h;obtain⟨h1,h2,h3,h4⟩:=Ab e;exact⟨j,h1,h,h2,h3,h4⟩
theorem mH {α:Type}{xs:List α}{j:Nat}{v:α}(h:xs[j]?=some v):uU xs (j:Int)=some v:=by
 have hj:j<xs.length:=(List.getElem?_eq_some_iff.mp h).1;have e:Bi xs.length (j:Int)=some j:=by
  unfold Bi;rw[if_pos (by omega),if_pos (by omega)];simp
 unfold uU;rw[e];exact h
def AG (b:Expr):Prop:=∀ o i,subscripted b false o i=operate [o,i] (getItem o i)
def GZ (X:Cx)(r:R2):Prop :=
 ∀ (value slice:Expr) (pins:List (Addr×Obj)) (s:Shared) (σ:St) (H:Hp) (x y:V) (v u:Value) (Q:VK),j7 X pins σ H s->A0 x v->A0 y u->r x y H Q ->
  subscripted slice false v u=operate [v,u] (getItem v u)->wpAny (model X.prog X.w) X.A (subscriptTail value slice v u) (EP X pins σ Q) X.xe s
def EJ (X:Cx)(id:String)(r:V->List V->Hp->VK->Prop):Prop :=
 ∀ (pins:List (Addr×Obj)) (s:Shared) (σ:St) (H:Hp) (x:V) (xs:List V) (v:Value) (us:List Value) (Q:VK),j7 X pins σ H s->A0 x v->x9 xs us->r x xs H Q ->
  wpAny (model X.prog X.w) X.A (call (.builtin id) (v::us)) (EP X pins σ Q) X.xe s
section
variable {X:Cx}{a b:Expr}{ta tb:TE}{pos:Pos}
theorem m7 {r:R2}(hr:GZ X r)(ha:PE X a ta)(hb:PE X b tb)(hs:AG b):PE X (.Subscript a b pos) (vQ r ta tb):=by
 intro pins s σ H Q I h;exact Subscript_ (Eu ha hb I h λv u s2 x y H2 I2 rx ry q=>hr a b pins s2 σ H2 x y v u Q I2 rx ry q (hs _ _))
def Gy (K:W.Frag):R2:=λx y H Q=>∃ p xs i v,x=.ref p/\y=.int i/\C9 K H p xs/\uU xs i=some v/\Q v H
def wJ (K:W.Frag):R2:=λx y H Q=>∃ p xs i v,x=.ref p/\y=.int i/\W2 K H p xs/\uU xs i=some v/\Q v H
theorem u9:GZ X (Gy X.K):=by
 intro value slice pins s σ H x y v u Q I rx ry h hs;obtain⟨p,xs,i,z,rfl,rfl,hq,he,q⟩:=h;cases rx;obtain⟨t,rfl⟩:=ry;obtain⟨its,r,pl,hz⟩:=I.list hq;obtain⟨j,h1,h2,h3,h4,h5⟩:=sU he;obtain⟨w,ew,rw'⟩:=r.get h2;have hl:=r.length;have hn:=qw;have fin:EP X pins σ Q w s:=⟨z,H,I,rw',q⟩;by_cases h0:0<=i
 ·have hj:i.toNat=j:=by
   rw[seqIndex_of h0 h5]at h1;exact Option.some.inj h1
  exact item_listR pl.isList h0 (by omega) (by rw[hj];simpa using ew) fin hs
 ·have hj:(i+(its.toArray.size:Int)).toNat=j:=by
   rw[seqIndex_neg (by omega) h4]at h1;rw[List.size_toArray,<-hl];exact Option.some.inj h1
  exact subscriptTail_builtinR (x:=w) pl.isList.typeIs slot_list_getitem.lookup
   (wpAny_getItem_list_neg (Q:=λr s'=>r=w/\EP X pins σ Q r s') pl.isList (by omega) (by rw[List.size_toArray]<;>omega) (by omega) (by rw[hj];simpa using ew) ⟨rfl,fin⟩) hs
theorem r9:GZ X (wJ X.K):=by
 intro value slice pins s σ H x y v u Q I rx ry h hs;obtain⟨p,xs,i,z,rfl,rfl,hq,he,q⟩:=h;cases rx;obtain⟨t,rfl⟩:=ry;obtain⟨its,r,pl,hz⟩:=I.tuple hq;obtain⟨j,h1,h2,h3,h4,h5⟩:=sU he;obtain⟨w,ew,rw'⟩:=r.get h2;have hl:=r.length;have hn:=qw;have fin:EP X pins σ Q w s:=⟨z,H,I,rw',q⟩;exact subscriptTail_builtinR (x:=w) pl.typeIs slot_tuple_getitem.lookup
  (getItem_tuple (j:=j) (Q:=λr s'=>r=w/\EP X pins σ Q r s') pl (by omega) (by omega) (by rw[List.size_toArray,<-hl];exact h1) (by simpa using ew) ⟨rfl,fin⟩) hs
theorem lD (lo hi:Option Int)(n:Nat):(sliceBounds lo hi none n).1=((HT.sIx n 0 lo:Nat):Int)/\(sliceBounds lo hi none n).2.1=((HT.sIx n n hi:Nat):Int)/\(sliceBounds lo hi none n).2.2=1:=by
 refine⟨?_,?_,rfl⟩
 ·cases lo with
  |none=>simp[sliceBounds,HT.sIx]
  |some i =>
   simp only[sliceBounds,HT.sIx,Option.getD_none,show(1:Int)>0 by decide,if_true];by_cases h:i<0
   ·simp only[h,if_true]<;>omega
   ·simp only[h,if_false]<;>omega
 ·cases hi with
  |none=>simp[sliceBounds,HT.sIx]
  |some i =>
   simp only[sliceBounds,HT.sIx,Option.getD_none,show(1:Int)>0 by decide,if_true];by_cases h:i<0
   ·simp only[h,if_true]<;>omega
   ·simp only[h,if_false]<;>omega
theorem jK (its:List Value)(lo hi:Option Int):slicePick its.toArray lo hi none=((its.drop (HT.sIx its.length 0 lo)).take (HT.sIx its.length its.length hi-HT.sIx its.length 0 lo)).toArray:=by
 obtain⟨h1,h2,h3⟩:=lD lo hi its.toArray.size;unfold slicePick;rw[h1,h2,h3];simp only[sliceRange_one,pick_run,List.size_toArray]<;>rfl
def Fl (K:W.Frag):V->Option Int->Option Int->Hp->VK->Prop:=λx lo hi H Q=>∃ a xs,x=.ref a/\C9 K H a xs/\∀ p,H p=none->Q (.ref p) (i8 H p (.lst (aq xs lo hi)))
theorem N1:Hm X (Fl X.K):=by
 intro pins s σ H x v vl vu lo hi sl Q I rx hs pl pu h;obtain⟨a,xs,rfl,hx,q⟩:=h;cases rx;obtain⟨its,r,ht,hz⟩:=I.list hx;have hlen:=r.length;refine⟨"list",_,slot_list_getitem.lookup,ht.isList.typeIs,?_⟩;refine wpAny_getItem_list_slice ht.isList hs pl pu .none (by simp) ?_ (by rw[List.size_toArray]<;>omega);rw[jK,<-hlen];refine⟨.ref s.heap.objs.size,_,I.laid (t':=s.toks) (o:=.lst (aq xs lo hi)) (λb ob q=>Heap.get?_push_of_some _ q) (Nat.le_refl _) ?_,rfl,q _ (I.hok.fresh (Nat.le_refl _))⟩;exact⟨Nat.le_trans (pA xs lo hi) hz,_,0,(r.drop (HT.sIx xs.length 0 lo)).take (HT.sIx xs.length xs.length hi-HT.sIx xs.length 0 lo),Heap.get?_push_size _ rfl⟩
def ak:V->Bool
 |.non=>true
 |.bl _=>true
 |.int _=>true
 |.str _=>true
 |_=>false
def yB:V->V->Bool
 |.non,.non=>true
 |.bl a,.bl b=>a==b
 |.bl a,.int b=>(if a then 1 else 0)==b
 |.int a,.bl b=>a==(if b then 1 else 0)
 |.int a,.int b=>a==b
 |.str a,.str b=>a==b
 |_,_=>false
theorem Ek {A:Around}{s:Shared}{y x:V}{u v:Value}(ry:A0 y u)(rx:A0 x v)(fy:ak y=true)(fx:ak x=true):SeqAt.EqAt A s u v (yB y x):=by
 cases y with
 |non =>
  cases ry;cases x with
  |non=>cases rx;exact SeqAt.EqAt.same _
  |bl b=>cases rx;exact SeqAt.EqAt.none_bool b
  |int b=>obtain⟨t,rfl⟩:=rx;exact SeqAt.EqAt.none_int b t
  |str b=>obtain⟨t,rfl⟩:=rx;exact SeqAt.EqAt.none_str b t
  |_=>exact absurd (show false=true from fx) Bool.false_ne_true
 |bl a =>
  cases ry;cases x with
  |non=>cases rx;exact SeqAt.EqAt.bool_none a
  |bl b=>cases rx;exact SeqAt.EqAt.bool_bool a b
  |int b=>obtain⟨t,rfl⟩:=rx;exact SeqAt.EqAt.bool_int a b t
  |str b=>obtain⟨t,rfl⟩:=rx;exact SeqAt.EqAt.bool_str a b t
  |_=>exact absurd (show false=true from fx) Bool.false_ne_true
 |int a =>
  obtain⟨t',rfl⟩:=ry;cases x with
  |non=>cases rx;exact SeqAt.EqAt.int_none a t'
  |bl b=>cases rx;exact SeqAt.EqAt.int_bool a t' b
  |int b=>obtain⟨t,rfl⟩:=rx;exact SeqAt.EqAt.int_int a t' b t
  |str b=>obtain⟨t,rfl⟩:=rx;exact SeqAt.EqAt.int_str a t' b t
  |_=>exact absurd (show false=true from fx) Bool.false_ne_true
 |str a =>
  obtain⟨t',rfl⟩:=ry;cases x with
  |non=>cases rx;exact SeqAt.EqAt.str_none a t'
  |bl b=>cases rx;exact SeqAt.EqAt.str_bool a t' b
  |int b=>obtain⟨t,rfl⟩:=rx;exact SeqAt.EqAt.str_int a t' b t
  |str b=>obtain⟨t,rfl⟩:=rx;exact SeqAt.EqAt.str_str a t' b t
  |_=>exact absurd (show false=true from fx) Bool.false_ne_true
 |_=>exact absurd (show false=true from fy) Bool.false_ne_true
def yC (x:V)(u:Value):Bool:=match u with
 |.none=>yB .non x
 |.bool b=>yB (.bl b) x
 |.int i _=>yB (.int i) x
 |.str z _=>yB (.str z) x
 |_=>false
theorem mx {x y:V}{u:Value}(r:A0 y u)(f:ak y=true):yC x u=yB y x:=by
 cases y with
 |non=>cases r;rfl
 |bl b=>cases r;rfl
 |int i=>obtain⟨t,rfl⟩:=r;rfl
 |str z=>obtain⟨t,rfl⟩:=r;rfl
 |_=>exact absurd (show false=true from f) Bool.false_ne_true
theorem mJ {x:V}:∀ {xs:List V}{us:List Value},x9 xs us->xs.all ak=true->us.any (yC x)=xs.any λy=>yB y x
 |_,_,.nil,_=>rfl
 |y::xs,u::us,.cons r t,f=>by
  rw[List.all_cons,Bool.and_eq_true]at f;rw[List.any_cons,List.any_cons,mx r f.1,mJ t f.2]
theorem eP {A:Around}{s:Shared}{x:V}{v:Value}(rx:A0 x v)(fx:ak x=true):∀ {xs:List V}{us:List Value},x9 xs us->xs.all ak=true->∀ u∈us,SeqAt.EqAt A s u v (yC x u)
 |_,_,.nil,_=>λu hu=>by cases hu
 |y::xs,u::us,.cons r t,f=>λu' hu=>by
  rw[List.all_cons,Bool.and_eq_true]at f;rcases List.mem_cons.mp hu with rfl|hu
  ·rw[mx r f.1];exact Ek r rx f.1 fx
  ·exact eP rx fx t f.2 u' hu
def Bj (x:V)(xs:List V):Bool:=xs.any λy=>yB y x
def Hw (K:W.Frag)(neg:Bool):R2:=λx y H Q=>∃ p xs,y=.ref p/\(C9 K H p xs\/W2 K H p xs)/\ak x=true/\xs.all ak=true/\Q (.bl (if neg then !Bj x xs else Bj x xs)) H
theorem eN:fB X (compareOp .NotIn) (Hw X.K true):=by
 intro pins s σ H x y v u Q I rx ry h;obtain⟨p,xs,rfl,hq,fx,fs,q⟩:=h;cases ry;rcases hq with hq|hq
 ·obtain⟨its,r,pl,hz⟩:=I.list hq;refine SeqAt.notIn_listAt (yC x) pl.isList (λw hw=>eP rx fx r fs w (by simpa using hw)) ⟨.bl _,H,I,rfl,?_⟩;rw[show its.toArray.any (yC x)=its.any (yC x) by simp,mJ r fs];exact q
 ·obtain⟨its,r,pl,hz⟩:=I.tuple hq;refine SeqAt.notIn_tupleAt (yC x) pl (λw hw=>eP rx fx r fs w (by simpa using hw)) ⟨.bl _,H,I,rfl,?_⟩;rw[show its.toArray.any (yC x)=its.any (yC x) by simp,mJ r fs];exact q
theorem B0:gK X (.builtin "len") (λxs H Q=>∃ p ys,xs=[.ref p]/\(C9 X.K H p ys\/W2 X.K H p ys)/\Q (.int ys.length) H):=by
 intro pins s σ H xs us Q I r h;obtain⟨p,ys,rfl,hq,q⟩:=h;obtain⟨u,rfl,rx⟩:=jV r;cases rx;have hn:=qw;rcases hq with hq|hq
 ·obtain⟨its,r',pl,hz⟩:=I.list hq;have hlen:=r'.length;exact Calls.call_len_list pl.isList (by simp only[List.size_toArray]<;>omega) ⟨.int ys.length,H,I.tok _,⟨s.toks+1,by rw[List.size_toArray,hlen]⟩,q⟩
 ·obtain⟨its,r',pl,hz⟩:=I.tuple hq;have hlen:=r'.length;exact len_tuple pl (by simp only[List.size_toArray]<;>omega) ⟨.int ys.length,H,I.tok _,⟨s.toks+1,by rw[List.size_toArray,hlen]⟩,q⟩
theorem L5:gK X (.type "tuple") (λxs H Q=>∃ p ys,xs=[.ref p]/\((C9 X.K H p ys/\∀ l,H l=none->Q (.ref l) (i8 H l (.tup ys)))\/(W2 X.K H p ys/\Q (.ref p) H))):=by
 intro pins s σ H xs us Q I r h;obtain⟨p,ys,rfl,h⟩:=h;obtain⟨u,rfl,rx⟩:=jV r;cases rx;rcases h with⟨hq,q⟩|⟨hq,q⟩
 ·obtain⟨its,r',pl,hz⟩:=I.list hq;have hlen:=r'.length;refine call_tuple_list pl.isList (λh' kp=>?_) (by simp only[List.size_toArray]<;>omega);have I1:j7 X pins σ H { s with heap:=h' }:=I.kept (t':=s.toks) kp;have I2:j7 X pins σ (i8 H h'.objs.size (.tup ys)) { s with heap:=h'.push { cls:=.type "tuple",data:=.seq its.toArray } } :=
   I1.laid (t':=s.toks) (λb o e=>Heap.get?_push_of_some _ e) (Nat.le_refl _) (show y3 X.prog X.w _ _ _ (.tup ys) from⟨hz,its,r',IsTup.new _ _⟩)
  exact⟨.ref h'.objs.size,_,I2,rfl,q _ (I1.hok.fresh (Nat.le_refl _))⟩
 ·obtain⟨its,r',pl,hz⟩:=I.tuple hq;exact call_tuple_same pl ⟨.ref p,H,I,rfl,q⟩
def Gf (K:W.Frag)(T:String)(x:V)(H:Hp):Prop:=match x with
 |.str _=>T="str"
 |.int _=>T="int"
 |.ref p=>(T="list"/\∃ xs,C9 K H p xs)\/(T="tuple"/\∃ o,K.lookup p=some o/\o.cls=.type "tuple"/\o.dict=none) \/
   (T="dict"/\((∃ kvs,H p=some (.dK kvs))\/∃ kvs,H p=some (.dT kvs)))\/(T="set"/\∃ S n,H p=some (.set S n))
 |_=>False
theorem vB {pins:List (Addr×Obj)}{σ:St}{H:Hp}{s:Shared}{T:String}{x:V}{v:Value}(I:j7 X pins σ H s)(r:A0 x v)(ty:Gf X.K T x H) :
  s.TypeIs v T/\∀ a,v=.ref a->∃ ob,s.heap.get? a=some ob/\ob.dict=none:=by
 cases x with
 |str z =>
  obtain⟨t,rfl⟩:=r;cases(show T="str" from ty);exact⟨typeIs_str s z t,λ_ e=>nomatch e⟩
 |int i =>
  obtain⟨t,rfl⟩:=r;cases(show T="int" from ty);exact⟨typeIs_int s i t,λ_ e=>nomatch e⟩
 |ref p =>
  cases r;rcases ty with⟨rfl,xs,hq⟩|⟨rfl,o,hk,hc,hd⟩|⟨rfl,hk⟩|⟨rfl,S,n,hk⟩
  ·obtain⟨its,_,pl,_⟩:=I.list hq;refine⟨pl.isList.typeIs,λa e=>?_⟩;cases e;obtain⟨o,n,e,c,hd,_⟩:=pl;exact⟨o,e,hd⟩
  ·refine⟨⟨o,I.kIn p o hk,hc⟩,λa e=>?_⟩;cases e;exact⟨o,I.kIn _ o hk,hd⟩
  ·have z:∃ o,s.heap.get? p=some o/\o.ExactDict:=by
    rcases hk with⟨kvs,hk⟩|⟨kvs,hk⟩
    ·obtain⟨_,_,_,_,o,_,_,e,ex,_⟩:=I.hok p _ hk;exact⟨o,e,ex⟩
    ·obtain⟨_,_,_,_,o,_,_,e,ex,_⟩:=I.hok p _ hk;exact⟨o,e,ex⟩
   obtain⟨o,e,ex⟩:=z;refine⟨⟨o,e,ex.1⟩,λa e2=>?_⟩;cases e2;exact⟨o,e,ex.2.1⟩
  ·obtain⟨o,_,_,_,e,ex,_⟩:=I.hok p _ hk;refine⟨⟨o,e,ex.1⟩,λa e2=>?_⟩;cases e2;exact⟨o,e,ex.2.1⟩
 |_=>exact False.elim ty
def Gs (K:W.Frag)(T:String)(r:V->List V->Hp->VK->Prop)(to:TE):TE:=λσ H Q=>to σ H λx H1=>Gf K T x H1/\r x [] H1 Q
def Hh (K:W.Frag)(T:String)(r:V->List V->Hp->VK->Prop)(to:TE)(t:TA):TE:=λσ H Q=>to σ H λx H1=>Gf K T x H1/\t σ H1 λxs H2=>r x xs H2 Q
variable {o e:Expr}{es:List Expr}{to:TE}{t:TA}{name:Str}{apos cpos:Pos}{T id:String}{r:V->List V->Hp->VK->Prop}
theorem wU (pa:PlainAttrs T)(slot:Slot T name id)(hty:typeOf (.builtin id)=pure (.type "method_descriptor"))(hm:EJ X id r)(ho:PE X o to)
  (hbase:attributeBase o name X.env (eval o X.env)=eval o X.env:=by rfl) (hline:(apos.endLine==cpos.line)=true:=by rfl):PE X (.Call (.Attribute o name apos) [] [] cpos) (Gs X.K T r to):=by
 intro pins s σ H Q I h;refine wpAny_Call_method0_late hbase hline (B9 (ho pins s σ H _ I h) λv s1 ⟨x,H1,I1,r1,ty,q1⟩=>?_);obtain⟨h1,h2⟩:=vB I1 r1 ty;exact⟨T,id,pa,slot,hty,h1,h2,Calls.callWith_builtin rfl (PySem.evalArgs_none (hm pins s1 σ H1 x [] v [] Q I1 r1 .nil q1))⟩
theorem kl (pa:PlainAttrs T)(slot:Slot T name id)(hty:typeOf (.builtin id)=pure (.type "method_descriptor"))(hm:EJ X id r)(ho:PE X o to)(ha:PA X (e::es) t)
  (hbase:attributeBase o name X.env (eval o X.env)=eval o X.env:=by rfl)
  (hfew:((backTo cpos (starEach (e::es) X.env)).all (λx=>!x.1)&&(backToKw cpos (keywordEach [] X.env)).all (λx=>x.1.isSome)
   && decide ((e::es).length+([]:List Keyword).length+(if([]:List Keyword).isEmpty then 0 else 1)<30))=true:=by rfl)
  (hline:(apos.endLine==cpos.line)=true:=by rfl) (hs:starEach (e::es) X.env=(false,eval e X.env)::starEach es X.env:=by rfl) (hplain:(backTo cpos (starEach es X.env)).any (·.1)=false:=by rfl) :
  PE X (.Call (.Attribute o name apos) (e::es) [] cpos) (Hh X.K T r to t):=by
 intro pins s σ H Q I h;refine wpAny_Call_method_late hbase hfew hline rfl (B9 (ho pins s σ H _ I h) λv s1 ⟨x,H1,I1,r1,ty,q1⟩=>?_);obtain⟨h1,h2⟩:=vB I1 r1 ty;refine⟨T,id,pa,slot,hty,h1,h2,?_⟩;have hA:=ha cpos pins s1 σ H1 _ I1 q1;rw[hs]at hA⊢;refine Calls.callWith_builtin (by show(false||(backTo cpos (starEach es X.env)).any (·.1))=false;rw[hplain]<;>rfl) (Calls.evalArgs_plain ?_);exact B9 hA λus s2 ⟨vs,H2,I2,r2,q2⟩=>hm pins s2 σ H2 x vs v us Q I2 r1 r2 q2
end
def Hq (X:Cx)(id:String)(r:V->List V->Hp->VK->Prop):Prop :=
 ∀ (pins:List (Addr×Obj)) (s:Shared) (σ:St) (H:Hp) (x:V) (xs:List V) (v:Value) (us:List Value) (Q:VK),j7 X pins σ H s->A0 x v->x9 xs us->r x xs H Q ->
  wpAny (model X.prog X.w) X.A (call (.builtin id) (v::us)) (EP X pins σ Q) X.xe s
theorem x9.one:∀ {x:V}{us:List Value},x9 [x] us->∃ u,us=[u]/\A0 x u
 |_,_,.cons r .nil=>⟨_,rfl,r⟩
theorem x9.rep {xs:List V}{us:List Value}(h:x9 xs us):∀ k:Nat,x9 (List.replicate k xs).flatten (List.replicate k us).flatten
 |0=>.nil
 |k+1=>by
  rw[List.replicate_succ,List.replicate_succ,List.flatten_cons,List.flatten_cons];exact x9.append h (x9.rep h k)
theorem kN (its:List Value):∀ (k:Nat) (acc:List Value),
  List.foldl (λx1 x2=>x1++x2) acc.toArray (List.replicate k its.toArray)=(acc++(List.replicate k its).flatten).toArray
 |0,acc=>by simp
 |k+1,acc=>by
  have e:acc.toArray++its.toArray=(acc++its).toArray:=by simp
  have e2:(acc++its)++(List.replicate k its).flatten=acc++(List.replicate (k+1) its).flatten:=by
   rw[List.replicate_succ,List.flatten_cons,List.append_assoc]
  rw[<-e2,<-kN its k (acc++its),<-e,List.replicate_succ,List.foldl_cons]
section
variable {X:Cx}{pins:List (Addr×Obj)}{σ:St}{H:Hp}{s:Shared}{l b:Addr}{xs ys zs:List V}
theorem j7.lset {its its':List Value}{n:Nat}{f:Array Value->Array Value}{t':Nat}(I:j7 X pins σ H s)(hH:H l=some (.lst xs))
  (e:s.heap.get? l=some { cls:=.type "list",data:=.seq its.toArray n }) (hf:f its.toArray=its'.toArray) (hv:x9 ys its') (hz:ys.length<=sizeLine) :
  j7 X pins σ (i8 H l (.lst ys)) { s with heap:=s.heap.update l (Obj.mapSeq f),toks:=t' }:=by
 have q:=PySem.IsL.update e f;rw[hf]at q;refine I.write (x:=l) (e:=l) (by rw[hH];exact trivial) (.inl rfl) (λb' u hb hu=>(Heap.get?_update_other s.heap (Obj.mapSeq f) (Ne.symm hb)).trans hu) ⟨_,q⟩ ?_;exact⟨hz,its',_,hv,q⟩
theorem j7.lnew {its:List Value}{t':Nat}(I:j7 X pins σ H s)(hv:x9 ys its)(hz:ys.length<=sizeLine) :
  j7 X pins σ (i8 H s.heap.objs.size (.lst ys)) { s with heap:=s.heap.push { cls:=.type "list",data:=.seq its.toArray },toks:=t' } :=
 I.laid (λ_ _ q=>Heap.get?_push_of_some _ q) (Nat.le_refl _) ⟨hz,its,0,hv,Heap.get?_push_size _ rfl⟩
theorem j7.fresh (I:j7 X pins σ H s):H s.heap.objs.size=none:=I.hok.fresh (Nat.le_refl _)
theorem j7.lstM (I:j7 X pins σ H s)(hH:H l=some (.lst xs)):xs.length<=sizeLine/\∃ (its:List Value) (n:Nat),x9 xs its/\xs.length=its.length/\s.heap.get? l=some { cls:=.type "list",data:=.seq its.toArray n }:=by
 obtain⟨z,its,n,r,e⟩:=I.hok l _ hH;exact⟨z,its,n,r,r.length,e⟩
theorem nX {n:Nat}(h:n<=sizeLine):Builtin.List.listTooLong n=false:=by
 unfold Builtin.List.listTooLong;exact decide_eq_false (by omega)
end
section
variable {X:Cx}
def rL:V->List V->Hp->VK->Prop:=λx vs H Q=>∃ l xs y,x=.ref l/\vs=[y]/\H l=some (.lst xs)/\xs.length<sizeLine/\Q .non (i8 H l (.lst (xs++[y])))
theorem Z8:Hq X "list.append" rL:=by
 intro pins s σ H x vs v us Q I rx rv h;obtain⟨l,xs,y,rfl,rfl,hH,hz,q⟩:=h;cases rx;obtain⟨u,rfl,ru⟩:=rv.one;obtain⟨z,its,n,r,hl,e⟩:=I.lstM hH;refine call_meets F.slot_list_append ⟨_,e,rfl⟩ F.entry_list_append (F.args_list_append_2 _ _) (PySem.list_append l its.toArray n u (by rw[List.size_toArray];omega)) ⟨e,?_⟩;refine⟨.non,_,I.lset (its':=its++[u]) hH e (by simp) (r.append (.cons ru .nil)) ?_,rfl,q⟩;rw[List.length_append,List.length_singleton];omega
def zg:V->List V->Hp->VK->Prop:=λx vs H Q=>∃ l b xs zs,x=.ref l/\vs=[.ref b]/\H l=some (.lst xs)/\H b=some (.lst zs)/\xs.length+zs.length<=sizeLine/\Q .non (i8 H l (.lst (xs++zs)))
theorem EF:Hq X "list.extend" zg:=by
 intro pins s σ H x vs v us Q I rx rv h;obtain⟨l,b,xs,zs,rfl,rfl,hH,hB,hz,q⟩:=h;cases rx;obtain⟨u,rfl,ru⟩:=rv.one;cases ru;obtain⟨z,its,n,r,hl,e⟩:=I.lstM hH;obtain⟨z2,its2,n2,r2,hl2,e2⟩:=I.lstM hB;have hsz:its.toArray.size+its2.toArray.size<=sizeLine:=by rw[List.size_toArray,List.size_toArray];omega
 have hlong:¬ (!its.toArray.isEmpty&&Builtin.List.listTooLong (its.toArray.size+its2.toArray.size))=true:=by
  rw[nX hsz,Bool.and_false];exact Bool.false_ne_true
 refine call_meets F.slot_list_extend ⟨_,e,rfl⟩ F.entry_list_extend (F.args_list_extend_2 _ _)
  (AutoSeq1.list_extend_list_list_0 l its.toArray n b its2.toArray n2 hlong (by rw[List.size_toArray];omega) (by omega)) ⟨e,e2,?_⟩
 refine⟨.non,_,I.lset (its':=its++its2) hH e (by simp) (r.append r2) ?_,rfl,q⟩;rw[List.length_append];omega
def GB:R2:=λx y H Q=>∃ l b xs zs,x=.ref l/\y=.ref b/\H l=some (.lst xs)/\H b=some (.lst zs)/\xs.length+zs.length<=sizeLine/\∀ p,H p=none->Q (.ref p) (i8 H p (.lst (xs++zs)))
theorem lV:fB X (binaryOp .Add) GB:=by
 intro pins s σ H x y v u Q I rx ry h;obtain⟨l,b,xs,zs,rfl,rfl,hH,hB,hz,q⟩:=h;cases rx;cases ry;obtain⟨z,its,n,r,hl,e⟩:=I.lstM hH;obtain⟨z2,its2,n2,r2,hl2,e2⟩:=I.lstM hB;refine PySem.P.add_list e e2 ?_ (by rw[List.size_toArray,List.size_toArray];omega);have ea:its.toArray++its2.toArray=(its++its2).toArray:=by simp
 rw[ea];exact⟨.ref _,_,I.lnew (t':=s.toks) (r.append r2) (by rw[List.length_append];omega),rfl,q _ I.fresh⟩
def Gx:R2:=λx y H Q=>∃ l k xs,x=.ref l/\y=.int k/\H l=some (.lst xs)/\ -(2^63)<=k/\k<2^63/\xs.length*k.toNat<=sizeLine /\
 ∀ p,H p=none->Q (.ref p) (i8 H p (.lst (List.replicate k.toNat xs).flatten))
theorem zU {α:Type}(xs:List α)(k:Nat):(List.replicate k xs).flatten.length=k*xs.length:=by
 induction k with
 |zero=>simp
 |succ k ih=>rw[List.replicate_succ,List.flatten_cons,List.length_append,ih,Nat.succ_mul,Nat.add_comm]
theorem wX:fB X (binaryOp .Mult) Gx:=by
 intro pins s σ H x y v u Q I rx ry h;obtain⟨l,k,xs,rfl,rfl,hH,h1,h2,hz,q⟩:=h;cases rx;obtain⟨t,rfl⟩:=ry;obtain⟨z,its,n,r,hl,e⟩:=I.lstM hH;have hlen:its.toArray.size*k.toNat<=sizeLine:=by rw[List.size_toArray,<-hl];exact hz
 have hcap:¬ its.toArray.size*k.toNat>(2^63-1)/8:=by
  have:(sizeLine:Nat)<=(2^63-1)/8:=by decide
  omega
 have hfit:¬ (!Builtin.List.listFitsIndex k)=true:=by
  rw[fitsIndex_both h1 h2];exact Bool.false_ne_true
 have hlong:¬ Builtin.List.listTooLong (its.toArray.size*k.toNat)=true:=by
  rw[nX hlen];exact Bool.false_ne_true
 have hnew:List.foldl (λx1 x2=>x1++x2) #[] (List.replicate (if its.toArray.isEmpty=true then 0 else k.toNat) its.toArray)=(List.replicate k.toNat its).flatten.toArray:=by
  have f0:∀ m:Nat,List.foldl (λx1 x2=>x1++x2) #[] (List.replicate m its.toArray)=(List.replicate m its).flatten.toArray:=λm=>by
   have:=kN its m [];rw[List.nil_append]at this;exact this
  rw[f0];cases its with
  |nil=>simp
  |cons a r'=>rw[if_neg (by simp)]
 refine wpAny_binaryOp_repeat_ref (T:="list") (U:="int") (by decide) ⟨_,e,rfl⟩ (λs'=>typeIs_int s' k t) noFill_list_mul F.fills_int_mul F.slot_int_rmul repeat_list F.slot_int_index.lookup
  (call_meets F.slot_int_rmul (typeIs_int s k t) F.entry_int_rmul (F.args_int_rmul_2 _ _) (int___rmul___int_list k t l its.toArray n)
   ⟨e,rfl,⟨_,e,rfl⟩,call_meets F.slot_list_mul ⟨_,e,rfl⟩ F.entry_list_mul (F.args_list_mul_2 _ _) (AutoListH.list___mul___list_int_3 l its.toArray n k t hfit hcap hlong) ⟨e,?_⟩⟩)
 rw[hnew];exact⟨.ref _,_,I.lnew (t':=s.toks) (r.rep k.toNat) (by rw[zU,Nat.mul_comm];exact hz),rfl,q _ I.fresh⟩
end
section
variable {X:Cx}
def X9 (K:W.Frag):V->List V->Hp->VK->Prop:=λx xs H Q=>∃ (a:Addr) (ys:List V) (y:V) (j:Nat) (z:V),x=V.ref a/\xs=[y]/\C9 K H a ys/\ak y=true/\ys.all ak=true/\ys[j]?=some z/\yB z y=true /\
 (∀ (m:Nat) (z':V),m<j->ys[m]?=some z'->yB z' y=false)/\Q (.int (j:Nat)) H
theorem sH {ys:List V}(f:ys.all ak=true){j:Nat}{z:V}(h:ys[j]?=some z):ak z=true:=List.all_eq_true.mp f z (List.mem_of_getElem? h)
theorem xw:EJ X "list.index" (X9 X.K):=by
 intro pins s σ H x xs v us Q I rx rxs h;obtain⟨a,ys,y,j,z,rfl,rfl,hs,fy,fys,hz,hzj,hno,q⟩:=h;cases rx;cases rxs with
 |cons ry rt =>
  rename_i uy ut
  cases rt;obtain⟨its,rv,⟨⟨cls,dd,data,sl⟩,n,ho,hc,hdn,hd⟩,hlen⟩:=I.list hs;simp only at hc hd;subst hc hd;obtain⟨u,hu,ru⟩:=rv.get hz;obtain⟨hjl,hje⟩:=List.getElem?_eq_some_iff.mp hu;have hvl:=rv.length;have hj:j<its.toArray.size:=by simpa using hjl
  have hsl:=sizeLine_eq;refine call_meets PySem.F.slot_list_index ⟨_,ho,rfl⟩ PySem.F.entry_list_index (PySem.F.args_list_index_2 _ _)
   (SeqAt.list_indexAt a its.toArray n dd sl uy (yC y) j hj (by omega) ?_ ?_) ⟨ho,λu' hu'=>eP ry fy rv fys u' (by simpa using hu'),?_⟩
  ·have e1:its.toArray[j]=u:=by simpa using hje
   rw[e1,mx ru (sH fys hz)];exact hzj
  ·intro m hm hmj;have hml:m<its.length:=by simpa using hm
   have hmy:m<ys.length:=by omega
   have hy':ys[m]?=some ys[m]:=List.getElem?_eq_getElem hmy;obtain⟨u2,hu2,ru2⟩:=rv.get hy';obtain⟨_,hme⟩:=List.getElem?_eq_some_iff.mp hu2;have e1:its.toArray[m]=u2:=by simpa using hme
   rw[e1,mx ru2 (sH fys hy')];exact hno m _ hmj hy'
  ·exact⟨.int (j:Nat),H,I.tok _,⟨_,rfl⟩,q⟩
end
mutual
inductive Dp (K:W.Frag)(H:Hp):V->PyData->Prop
 |non:Dp K H .non .none
 |bl (b:Bool):Dp K H (.bl b) (.bool b)
 |int (i:Int):Dp K H (.int i) (.int i)
 |str (x:Str):Dp K H (.str x) (.str x)
 |lst {a:Addr}{xs:List V}{ds:List PyData}:C9 K H a xs->DpAll K H xs ds->Dp K H (.ref a) (.list ds)
 |tup {a:Addr}{xs:List V}{ds:List PyData}:W2 K H a xs->DpAll K H xs ds->Dp K H (.ref a) (.tuple ds)
inductive DpAll (K:W.Frag)(H:Hp):List V->List PyData->Prop
 |nil:DpAll K H [] []
 |cons {v:V}{vs:List V}{d:PyData}{ds:List PyData}:Dp K H v d->DpAll K H vs ds->DpAll K H (v::vs) (d::ds)
end
section
variable {X:Cx}{pins:List (Addr×Obj)}{σ:St}{H:Hp}{s:Shared}
mutual
theorem Dp.reads (I:j7 X pins σ H s):∀ (d:PyData) (v:V) (u:Value),Dp X.K H v d->A0 v u->∃ as,Reads s.heap u d as
 |.none,_,_,h,r=>by
  cases h;cases r;exact⟨_,Reads.none⟩
 |.bool b,_,_,h,r=>by
  cases h;cases r;exact⟨_,Reads.bool b⟩
 |.int i,_,_,h,r=>by
  cases h;obtain⟨t,rfl⟩:=r;exact⟨_,Reads.int i t⟩
 |.str x,_,_,h,r=>by
  cases h;obtain⟨t,rfl⟩:=r;exact⟨_,Reads.str x t⟩
 |.list ds,_,_,h,r=>by
  cases h with
  |lst hs ha =>
   cases r;obtain⟨its,rv,⟨o,n,ho,hc,_,hd⟩,_⟩:=I.list hs;obtain⟨as,hr⟩:=Dp.readsAll I ds _ its ha rv;exact⟨_,Reads.list ho hc hd hr⟩
 |.tuple ds,_,_,h,r=>by
  cases h with
  |tup hs ha =>
   cases r;obtain⟨its,rv,⟨o,ho,hc,n,hd⟩,_⟩:=I.tuple hs;obtain⟨as,hr⟩:=Dp.readsAll I ds _ its ha rv;exact⟨_,Reads.tuple ho hc hd hr⟩
 |.dict _,_,_,h,_=>by cases h
theorem Dp.readsAll (I:j7 X pins σ H s):∀ (ds:List PyData) (vs:List V) (us:List Value),DpAll X.K H vs ds->x9 vs us->∃ as,ReadsAll s.heap us ds as
 |[],_,_,h,r=>by
  cases h;cases r;exact⟨_,ReadsAll.nil⟩
 |d::ds,_,_,h,r=>by
  cases h with
  |cons h1 h2 =>
   cases r with
   |cons r1 r2 =>
    obtain⟨as,q1⟩:=Dp.reads I d _ _ h1 r1;obtain⟨bs,q2⟩:=Dp.readsAll I ds _ _ h2 r2;exact⟨_,ReadsAll.cons q1 q2⟩
end
end
section
variable {X:Cx}
def GA (K:W.Frag):R2:=λx y H Q=>∃ d e,Dp K H x d/\Dp K H y e/\SeqAt.shaped d=true/\SeqAt.shaped e=true/\Q (.bl (PyData.eqv d e)) H
theorem Cm (hu:X.A.units+64<cLine):fB X (compareOp .Eq) (GA X.K):=by
 intro pins s σ H x y v u Q I rx ry h;obtain⟨d,e,hd,he,sd,se,q⟩:=h;obtain⟨as,r1⟩:=Dp.reads I d x v hd rx;obtain⟨bs,r2⟩:=Dp.reads I e y u he ry;exact SeqAt.compareEq_shaped r1 r2 sd se hu ⟨.bl _,H,I,rfl,q⟩
end
abbrev yy (h:Heap)(c:Addr)(v:Option Value):Prop:=h.IsCell c v
def Gw (scope sc:Scope):Scope :=
 { scope with names:=scope.names.map λ(n,k)=>if(k==.free&&sc.kind==.function&&sc.names.lookup n==some .cell)then(n,.cell)else(n,k) }
def y6 (cells:List (Str×Addr)):List (Str×NameKind)->List (Str×Addr)->List (Str×Addr)
 |[],acc=>acc
 | (n,k)::r,acc=>if k==.free then y6 cells r ((n,(cells.lookup n).getD 0)::acc)else y6 cells r acc
theorem fq (env:Env)(f:Str×NameKind->List (Str×Addr)->Sem (ForInStep (List (Str×Addr))))
  (hf:∀ n k c,f (n,k) c=if k==.free then(do let a ← cellOf env n;pure (.yield ((n,a)::c)))else pure (.yield c)) :
  ∀ (names:List (Str×NameKind)) (acc:List (Str×Addr)),(∀ y∈names,y.2=.free->∃ c,env.cells.lookup y.1=some c)->forIn names acc f=pure (y6 env.cells names acc)
 |[],acc,_=>by rw[List.forIn_nil];rfl
 | (n,k)::r,acc,h=>by
  rw[List.forIn_cons,hf];have ih:=λacc=>fq env f hf r acc λy hy=>h y (List.mem_cons_of_mem _ hy);unfold y6;by_cases hk:(k==NameKind.free)=true
  ·rw[if_pos hk,if_pos hk];obtain⟨c,hc⟩:=h (n,k) List.mem_cons_self (by simpa using hk);have e:cellOf env n=pure c:=by unfold cellOf;rw[hc]
   rw[e];have e2:(env.cells.lookup n).getD 0=c:=by rw[hc];rfl
   rw[e2];exact ih _
  ·rw[if_neg hk,if_neg hk];exact ih _
theorem jC {scope:Scope}{env:Env}(h:∀ y∈scope.names,y.2=.free->∃ c,env.cells.lookup y.1=some c):closureFor scope env=pure (y6 env.cells scope.names []):=by
 simp only[closureFor];rw[fq env _ (λn k c=>rfl) scope.names [] h];rfl
theorem dP {α:Type}:∀ {l:List (Str×α)}{n:Str}{c:α},(n,c)∈l->∃ c',l.lookup n=some c'
 | (k,v)::r,n,c,h=>by
  rw[List.lookup_cons];cases hb:n==k with
  |true=>exact⟨_,rfl⟩
  |false =>
   rcases List.mem_cons.mp h with e|h
   ·cases e;simp at hb
   ·exact dP h
theorem W1 {cells:List (Str×Addr)}:∀ {names:List (Str×NameKind)}{acc:List (Str×Addr)}{n:Str}{c:Addr},(n,c)∈y6 cells names acc->(n,c)∈acc\/((n,.free)∈names/\c=(cells.lookup n).getD 0)
 |[],_,_,_,h=>.inl h
 | (m,k)::r,acc,n,c,h=>by
  unfold y6 at h;split at h
  ·rename_i hk
   have hk:k=.free:=by simpa using hk
   rcases W1 h with h|⟨h1,h2⟩
   ·rcases List.mem_cons.mp h with e|h
    ·cases e;exact .inr ⟨hk▸List.mem_cons_self,rfl⟩
    ·exact .inl h
   ·exact .inr ⟨List.mem_cons_of_mem _ h1,h2⟩
  ·rcases W1 h with h|⟨h1,h2⟩
   ·exact .inl h
   ·exact .inr ⟨List.mem_cons_of_mem _ h1,h2⟩
theorem cC {cells:List (Str×Addr)}:∀ {names:List (Str×NameKind)}{acc:List (Str×Addr)}{p:Str×Addr},p∈acc->p∈y6 cells names acc
 |[],_,_,h=>h
 | (m,k)::r,acc,p,h=>by
  unfold y6;split
  ·exact cC (List.mem_cons_of_mem _ h)
  ·exact cC h
theorem cB {cells:List (Str×Addr)}:∀ {names:List (Str×NameKind)}{acc:List (Str×Addr)}{n:Str},(n,.free)∈names->(n,(cells.lookup n).getD 0)∈y6 cells names acc
 | (m,k)::r,acc,n,h=>by
  unfold y6;rcases List.mem_cons.mp h with e|h
  ·cases e;exact cC List.mem_cons_self
  ·split
   ·exact cB h
   ·exact cB h
theorem au:∀ {names:List (Str×NameKind)}{h:Heap}{acc:List (Str×Addr)}{x:Str}{c:Addr},(x,c)∈cellsFrom h.objs.size names acc ->
  (x,c)∈acc\/((x,.cell)∈names/\h.objs.size<=c/\yy (pushCells h names) c none)
 |[],_,_,_,_,h=>.inl h
 | (n,k)::r,h,acc,x,c,hm=>by
  unfold cellsFrom at hm;unfold pushCells;split at hm
  ·rename_i hk
   rw[if_pos hk];have hk:k=.cell:=by simpa using hk
   rw[<-Heap.size_push h { cls:=.type "cell",data:=.cell none }]at hm;rcases au hm with hm|⟨h1,h2,h3⟩
   ·rcases List.mem_cons.mp hm with e|hm
    ·cases e;exact .inr ⟨hk▸List.mem_cons_self,Nat.le_refl _,_,pushCells_keeps r _ _ _ (Heap.get?_push_size _ rfl),rfl⟩
    ·exact .inl hm
   ·rw[Heap.size_push]at h2;exact .inr ⟨List.mem_cons_of_mem _ h1,Nat.le_of_succ_le h2,h3⟩
  ·rename_i hk
   rw[if_neg hk];rcases au hm with hm|⟨h1,h2,h3⟩
   ·exact .inl hm
   ·exact .inr ⟨List.mem_cons_of_mem _ h1,h2,h3⟩
theorem de:∀ {names:List (Str×NameKind)}{n:Nat}{acc:List (Str×Addr)}{p:Str×Addr},p∈acc->p∈cellsFrom n names acc
 |[],_,_,_,h=>h
 | (m,k)::r,n,acc,p,h=>by
  unfold cellsFrom;split
  ·exact de (List.mem_cons_of_mem _ h)
  ·exact de h
theorem gf:∀ {names:List (Str×NameKind)}{n:Nat}{acc:List (Str×Addr)}{x:Str},(x,.cell)∈names->∃ c,(x,c)∈cellsFrom n names acc
 | (m,k)::r,n,acc,x,h=>by
  unfold cellsFrom;rcases List.mem_cons.mp h with e|h
  ·cases e;exact⟨n,de List.mem_cons_self⟩
  ·split
   ·exact gf h
   ·exact gf h
theorem fZ:∀ {names:List (Str×NameKind)}{h:Heap}{acc:List (Str×Addr)}{x y:Str}{c:Addr},(∀ p∈acc,p.2<h.objs.size)->(∀ x y c,(x,c)∈acc->(y,c)∈acc->x=y) ->
  (x,c)∈cellsFrom h.objs.size names acc->(y,c)∈cellsFrom h.objs.size names acc->x=y
 |[],_,_,_,_,_,_,hi,h1,h2=>hi _ _ _ h1 h2
 | (n,k)::r,h,acc,x,y,c,hl,hi,h1,h2=>by
  unfold cellsFrom at h1 h2;split at h1
  ·rename_i hk
   rw[if_pos hk]at h2;rw[<-Heap.size_push h { cls:=.type "cell",data:=.cell none }]at h1 h2;refine fZ (h:=h.push _) (λp hp=>?_) (λx y c a b=>?_) h1 h2
   ·rw[Heap.size_push];rcases List.mem_cons.mp hp with rfl|hp
    ·exact Nat.lt_succ_self _
    ·exact Nat.lt_succ_of_lt (hl p hp)
   ·rcases List.mem_cons.mp a with e|a<;>rcases List.mem_cons.mp b with e'|b
    ·cases e;cases e';rfl
    ·cases e;exact absurd (hl _ b) (Nat.lt_irrefl _)
    ·cases e';exact absurd (hl _ a) (Nat.lt_irrefl _)
    ·exact hi _ _ _ a b
  ·rename_i hk
   rw[if_neg hk]at h2;exact fZ hl hi h1 h2
theorem gx {M:Model}{A:Around}{E:Value->Shared->Prop}{s:Shared}{scope:Scope}{globals:Addr}{closure:List (Str×Addr)}{qual:Str}{func:Option Addr}{code:Value}{around:Env}{builtins:Addr}{Q:Env->Shared->Prop}
  (h:Q (newEnv scope s.heap.objs.size globals (cellsFrom (s.heap.objs.size+1) scope.names closure) qual func code (some around) builtins)
   { s with heap:=pushCells (s.heap.push { cls:=.type "dict",data:=.dict #[] }) scope.names }) :
  wpAny M A (newFunctionEnv scope globals closure [] qual func code (some around) builtins) Q E s:=by
 simp only[newFunctionEnv,Option.isSome_some,if_true];refine wpAny_bind (wpAny_alloc ?_);refine wpAny_bind (wpAny_layCells _ (λn k c=>rfl) scope.names closure _ _ ?_);rw[show({ s with heap:=s.heap.push { cls:=.type "dict",data:=.dict #[] } }:Shared).heap.objs.size=s.heap.objs.size+1 from Heap.size_push ..];rw[List.forIn_nil];exact wpAny_bind (wpAny_pure (wpAny_pure h))
theorem cx {sc:Scope}:∀ {names:List (Str×NameKind)}{x:Str}{k:NameKind},
  (names.map λ(n,k)=>if(k==NameKind.free&&sc.kind==.function&&sc.names.lookup n==some .cell)then(n,NameKind.cell)else(n,k)).lookup x=some k ->
  ∃ k',names.lookup x=some k'/\(k=k'\/(k'=.free/\k=.cell))
 |[],_,_,h=>by simp at h
 | (n,k₀)::r,x,k,h=>by
  have ih:=@cx sc r x k;have h':List.lookup x ((if(k₀==NameKind.free&&sc.kind==.function&&sc.names.lookup n==some .cell)=true then(n,NameKind.cell)else(n,k₀))::(r.map _))=some k:=h;cases hx:x==n with
  |true =>
   simp only[List.lookup_cons,hx];by_cases hc:(k₀==NameKind.free&&sc.kind==.function&&sc.names.lookup n==some .cell)=true
   ·rw[if_pos hc]at h';simp only[List.lookup_cons,hx]at h';cases h';simp only[Bool.and_eq_true,beq_iff_eq]at hc;exact⟨k₀,rfl,.inr ⟨hc.1.1,rfl⟩⟩
   ·rw[if_neg hc]at h';simp only[List.lookup_cons,hx]at h';cases h';exact⟨_,rfl,.inl rfl⟩
  |false =>
   simp only[List.lookup_cons,hx];by_cases hc:(k₀==NameKind.free&&sc.kind==.function&&sc.names.lookup n==some .cell)=true
   ·rw[if_pos hc]at h';simp only[List.lookup_cons,hx]at h';exact ih h'
   ·rw[if_neg hc]at h';simp only[List.lookup_cons,hx]at h';exact ih h'
structure jJ (N:List Str)(sc scope:Scope)(own:List (Str×Nat)):Prop where
 kind:scope.kind=.function
 uniq:∀ y∈scope.names,scope.names.lookup y.1=some y.2
 ix:∀ p∈own,N[p.2]?=some p.1
 free:∀ y∈scope.names,y.2=.free->sc.names.lookup y.1=some .cell\/sc.names.lookup y.1=some .free
 own:∀ y∈scope.names,y.2=.local \/y.2=.cell->y.1∈own.map (·.1)\/y.1∉N
def K6 (σ:St):List Nat->St
 |[]=>σ
 |v::vs=>(K6 σ vs).set v none
theorem V3 (σ:St):∀ vs:List Nat,(K6 σ vs).length=σ.length
 |[]=>rfl
 |v::vs=>by unfold K6;rw[List.length_set,V3 σ vs]
theorem cJ {σ:St}{i:Nat}{x:V}:∀ {vs:List Nat},(K6 σ vs)[i]?=some (some x)->σ[i]?=some (some x)/\i∉vs
 |[],h=>⟨h,by simp⟩
 |v::vs,h=>by
  unfold K6 at h;by_cases hi:v=i
  ·subst hi;by_cases hv:v<(K6 σ vs).length
   ·rw[List.getElem?_set_self hv]at h;cases h
   ·rw[List.getElem?_eq_none (by simpa using hv)]at h;cases h
  ·rw[List.getElem?_set_ne hi]at h;obtain⟨h1,h2⟩:=cJ h;exact⟨h1,by simp only[List.mem_cons,not_or];exact⟨λe=>hi e.symm,h2⟩⟩
abbrev Cx.blk (X:Cx)(s:Shared)(H:Hp)(scope:Scope)(cenv:Env)(fp:List Addr):Cx:={ X with s_0:=s,H_0:=H,env:=cenv,outer:=X.stack,ex:=fp,fn:=λx=>scope.names.lookup x==some .cell,pn:=[],xe:=λ_ _=>False }
section
variable {X:Cx}{pins:List (Addr×Obj)}{σ:St}{H:Hp}{s:Shared}
theorem gJ {scope:Scope}{own:List (Str×Nat)}{fp:List Addr}(I:j7 X pins σ H s)(ok:jJ X.N X.env.scope scope own)(hN:X.N.Nodup)(hfp:∀ b∈fp,bL X pins H b/\b<s.heap.objs.size) :
  j7 (X.blk s H scope (compEnvC scope (cellsFrom (s.heap.objs.size+1) scope.names (y6 X.env.cells scope.names [])) s.heap.objs.size X.env) fp) [] (K6 σ (own.map (·.2))) H { s with heap:=pushCells (s.heap.push { cls:=.type "dict",data:=.dict #[] }) scope.names }:=by
 have hfree:∀ y∈scope.names,y.2=.free->∃ c,X.env.cells.lookup y.1=some c:=λy hy e=>by
  rcases ok.free y hy e with k|k
  ·exact I.ok.has _ (.inl k)
  ·exact I.ok.has _ (.inr k)
 generalize hcenv:compEnvC scope (cellsFrom (s.heap.objs.size+1) scope.names (y6 X.env.cells scope.names [])) s.heap.objs.size X.env=cenv;have kp:∀ b o,s.heap.get? b=some o->(pushCells (s.heap.push { cls:=.type "dict",data:=.dict #[] }) scope.names).get? b=some o:=λb o e=>pushCells_keeps _ _ _ _ (Heap.get?_push_of_some _ e);have hL:cenv.locals=s.heap.objs.size:=by rw[<-hcenv];rfl
 have hcl:cenv.cells=cellsFrom (s.heap.objs.size+1) scope.names (y6 X.env.cells scope.names []):=by rw[<-hcenv];rfl
 have hsc:cenv.scope=Gw scope X.env.scope:=by rw[<-hcenv];rfl
 rw[<-Heap.size_push s.heap { cls:=.type "dict",data:=.dict #[] }]at hcl;have cm:∀ {y c},(y,c)∈y6 X.env.cells scope.names []->X.env.cells.lookup y=some c/\c<s.heap.objs.size:=λ{y c} hm=>by
  rcases W1 hm with hm|⟨h1,rfl⟩
  ·cases hm
  ·obtain⟨c,hc⟩:=hfree _ h1 rfl;rw[hc];obtain⟨w,z⟩:=I.cell _ _ hc;exact⟨rfl,z.lt⟩
 have mem:∀ {y c},cenv.cells.lookup y=some c->(X.env.cells.lookup y=some c/\c<s.heap.objs.size)\/(s.heap.objs.size+1<=c/\yy (pushCells (s.heap.push { cls:=.type "dict",data:=.dict #[] }) scope.names) c none):=λ{y c} e=>by
  rw[hcl]at e;rcases au (PySem.mem_of_lookup e)with hm|⟨_,h2,h3⟩
  ·exact .inl (cm hm)
  ·rw[Heap.size_push]at h2;exact .inr ⟨h2,h3⟩
 have look:∀ {y},scope.names.lookup y=some .free->∃ c,cenv.cells.lookup y=some c/\X.env.cells.lookup y=some c:=λ{y} hl=>by
  have hy:(y,NameKind.free)∈scope.names:=PySem.mem_of_lookup hl;obtain⟨c',e'⟩:=dP (de (names:=scope.names) (n:=(s.heap.push { cls:=.type "dict",data:=.dict #[] }).objs.size) (cB (cells:=X.env.cells) (acc:=[]) hy));rw[<-hcl]at e';refine⟨c',e',?_⟩;rw[hcl]at e';rcases au (PySem.mem_of_lookup e')with hm|⟨h1,_,_⟩
  ·exact(cm hm).1
  ·have:=ok.uniq _ h1;rw[hl]at this;cases this
 have okB:(X.blk s H scope cenv fp).Ok:=by
  refine⟨I.ok.mod,by show cenv.scope.kind=_;rw[hsc];exact ok.kind,by show cenv.globals=_;rw[<-hcenv];exact I.ok.glob,by show cenv.builtins=_;rw[<-hcenv];exact I.ok.blt,by show s.heap.objs.size<=cenv.locals;rw[hL];exact Nat.le_refl _,
   λy z c e1 e2=>?_,λy hy=>?_,λy c z e=>?_,I.ok.hd,I.ok.frames,.inl rfl,λb hb=>⟨?_,λy c e z=>?_⟩,I.bs,Nat.le_trans I.ok.bsz I.sz,λb o e hb=>?_,λb hb z=>?_,I.stack,I.stkFree⟩
  ·have e1:cenv.cells.lookup y=some c:=e1;have e2:cenv.cells.lookup z=some c:=e2;rw[hcl]at e1 e2;refine fZ (λp hp=>?_) (λy z c a b=>I.ok.inj y z c (cm a).1 (cm b).1) (PySem.mem_of_lookup e1) (PySem.mem_of_lookup e2);rw[Heap.size_push];exact Nat.lt_succ_of_lt (cm (y:=p.1) (c:=p.2) hp).2
  ·show ∃ c,cenv.cells.lookup y=some c;have key:∀ k,cenv.kindOf y=some k->(k=.cell\/k=.free)->∃ c,cenv.cells.lookup y=some c:=λk hk hk'=>by
    unfold Env.kindOf at hk;rw[hsc]at hk;obtain⟨k',e,r⟩:=cx hk;have:k'=.cell\/k'=.free:=by
     rcases r with rfl|⟨rfl,_⟩
     ·exact hk'
     ·exact .inr rfl
    rcases this with rfl|rfl
    ·obtain⟨c,hm⟩:=gf (n:=(s.heap.push { cls:=.type "dict",data:=.dict #[] }).objs.size) (acc:=y6 X.env.cells scope.names []) (PySem.mem_of_lookup e);obtain⟨c',e'⟩:=dP hm;exact⟨c',by rw[hcl];exact e'⟩
    ·obtain⟨c,h1,_⟩:=look e;exact⟨c,h1⟩
   rcases hy with hy|hy
   ·exact key _ hy (.inl rfl)
   ·exact key _ hy (.inr rfl)
  ·have z:(scope.names.lookup y==some NameKind.cell)=true:=z;have z:scope.names.lookup y=some .cell:=by simpa using z
   have e:cenv.cells.lookup y=some c:=e;rw[hcl]at e;rcases au (PySem.mem_of_lookup e)with hm|⟨_,h2,_⟩
   ·rcases W1 hm with hm|⟨h1,_⟩
    ·cases hm
    ·have q:=ok.uniq _ h1;rw[z]at q;cases q
   ·rw[Heap.size_push]at h2;exact Nat.le_of_succ_le h2
  ·show b≠cenv.locals;rw[hL];exact Nat.ne_of_lt (hfp b hb).2
  ·have e:cenv.cells.lookup y=some c:=e;rcases mem e with⟨h1,_⟩|⟨h1,_⟩
   ·exact(hfp b hb).1.2.2.2.2.1 y c h1 z
   ·have h2:s.heap.objs.size+1<=b:=by rw[<-z];exact h1
    exact absurd (Nat.lt_of_lt_of_le (hfp b hb).2 (Nat.le_of_succ_le h2)) (Nat.lt_irrefl _)
  ·rcases(hfp b hb).1.2.2.2.1 with z|z
   ·exact I.ok.noex b o e z
   ·exact absurd (Nat.lt_of_lt_of_le (Heap.lt_size e) (Nat.le_trans I.ok.bsz z)) (Nat.lt_irrefl _)
  ·rcases List.mem_cons.mp (I.stkSub b z)with z|z
   ·exact(hfp b hb).1.2.1 z
   ·exact(hfp b hb).1.2.2.1 z
 refine⟨okB,rfl,I.bare,Un.kept kp,⟨λ_=>none,?_,λi y av e1 e2 e3=>?_⟩,λy c e=>?_,?_,λy c e=>?_,λp hp=>?_,I.hok.kept kp,by rw[V3];exact I.len⟩
 ·show Heap.Ns _ cenv.locals _;rw[hL];exact Heap.Ns.keeps (Heap.Ns.new ..) λb o e=>pushCells_keeps _ _ _ _ e
 ·obtain⟨e2,hne⟩:=cJ e2;have hfr:scope.names.lookup y=some .free/\(cenv.kindOf y=some .cell\/cenv.kindOf y=some .free):=by
   have key:∀ k,cenv.scope.names.lookup y=some k->k=.local \/k=.cell\/k=.free->scope.names.lookup y=some .free/\(cenv.kindOf y=some .cell\/cenv.kindOf y=some .free):=λk hk hk'=>by
    have hk0:=hk;rw[hsc]at hk;obtain⟨k',e,r⟩:=cx hk;have no:¬ (k'=.local \/k'=.cell):=λhh=>by
     rcases ok.own _ (PySem.mem_of_lookup e) hh with e'|e'
     ·obtain⟨p,hp,hpy⟩:=List.mem_map.mp e';have e3:=ok.ix p hp;have:p.1=y:=hpy;rw[this]at e3;exact hne (List.mem_map.mpr ⟨p,hp,jf hN e3 e1⟩)
     ·exact e' (List.mem_of_getElem? e1)
    rcases r with rfl|⟨rfl,rfl⟩
    ·rcases hk' with rfl|rfl|rfl
     ·exact absurd (.inl rfl) no
     ·exact absurd (.inr rfl) no
     ·exact⟨e,.inr hk0⟩
    ·exact⟨e,.inl hk0⟩
   have e3:Ex cenv.scope y:=e3;rcases e3 with e3|e3|e3
   ·exact key _ e3 (.inl rfl)
   ·exact key _ e3 (.inr (.inl rfl))
   ·exact key _ e3 (.inr (.inr rfl))
  obtain⟨m,hn,hl⟩:=I.loc;have hvis:Ex X.env.scope y:=(ok.free _ (PySem.mem_of_lookup hfr.1) rfl).elim (λk=>.inr (.inl k)) (λk=>.inr (.inr k));obtain⟨w,r,q⟩:=hl i y av e1 e2 hvis;refine⟨w,r,.inr ⟨hfr.2,?_⟩⟩;obtain⟨c,h1,h2⟩:=look hfr.1;rcases q with⟨k,_⟩|⟨_,c',e',z⟩
  ·have k:X.env.scope.names.lookup y=some .local:=k;rcases ok.free _ (PySem.mem_of_lookup hfr.1) rfl with k'|k'<;>rw[show X.env.scope.names.lookup y=_ from k']at k<;>cases k
  ·rw[h2]at e';cases e';exact⟨c,h1,z.keeps kp⟩
 ·have e:cenv.cells.lookup y=some c:=e;rcases mem e with⟨h1,_⟩|⟨_,z⟩
  ·obtain⟨w,z⟩:=I.cell y c h1;exact⟨w,z.keeps kp⟩
  ·exact⟨_,z⟩
 ·show H cenv.locals=none;rw[hL];exact I.hok.fresh (Nat.le_refl _)
 ·have e:cenv.cells.lookup y=some c:=e;rcases mem e with⟨h1,_⟩|⟨h1,_⟩
  ·exact I.freeC y c h1
  ·exact I.hok.fresh (Nat.le_of_succ_le h1)
 ·exact absurd (show p∈([]:List (Addr×Obj))++[] from hp) (by simp)
theorem yr {E:Value->Shared->Prop}{D:Addr}{xs:List V}{y:V}{v:Value}{Q:Value->Shared->Prop}(I:j7 X pins σ H s)(hD:H D=some (.lst xs))(hz:xs.length<sizeLine)(r:A0 y v)
  (h:∀ s',j7 X pins σ (i8 H D (.lst (xs++[y]))) s'->Q .none s'):wpAny (model X.prog X.w) X.A (call (.builtin "list.append") [.ref D,v]) Q E s:=by
 obtain⟨hz',its,n,ri,e⟩:=I.hok D _ hD;have hl:=ri.length;refine append_at (hsz:=by rw[List.size_toArray];omega) e λh' sb ho'=>?_;refine h { s with heap:=h' } (I.write (t':=s.toks) (by rw[hD];trivial) (.inl rfl) (λb u hb q=>(sb.2 b hb).trans q) ⟨_,ho'⟩ ⟨by rw[List.length_append];exact hz,its++[v],n+1,ri.append (.cons r .nil),?_⟩);rw[ho'];simp
def EI (X:Cx)(ifs:List Expr)(t:TT):Prop :=
 ∀ (pins:List (Addr×Obj)) (s:Shared) (σ:St) (H:Hp) (Q:Bool->Hp->Prop),j7 X pins σ H s->t σ H Q ->
  wpAny (model X.prog X.w) X.A (forIn ifs true λc r=>if r=true then do let ok ← isTrue c X.env (eval c X.env);pure (ForInStep.yield ok)else pure (ForInStep.yield r)) (TP X pins σ Q) X.xe s
def Gh:TT:=λ_ H Q=>Q true H
theorem R4:EI X [] Gh:=λ_ _ _ H _ I h=>wpAny_tests_nil ⟨H,I,h⟩
end
theorem iy {α:Type}{t:Sem α}{Q Q':α->Shared->Prop}{M:Model}{A:Around}{E:Value->Shared->Prop}{s:Shared}(h:wpAny M A t Q (λ_ _=>False) s)(hQ:∀ a s,Q a s->Q' a s):wpAny M A t Q' E s:=wpAny_mono h hQ λ_ _ z=>False.elim z
theorem fo {prog:Program}{w:World}{A:Around}{R:Result->Shared->Prop}{s:Shared}{elt target iter:Expr}{ifs:List Expr}{scope:Scope}{pos:Pos}{it acc:Value}{env:Env}(I:Nat->Shared->Prop)
  (turn:∀ n s,I n s->wpAny (model prog w) A (pyNext it) (λr s₁=>match r with
   |none=>R (.ok .next) s₁
   |some v=>wpAny (model prog w) A (letOwnedTupleGo target it v) (λ_ s₁'=>wpAny (model prog w) A (assign target env v) (λ_ s₂ =>
     wpAny (model prog w) A (forIn ifs true λc r=>if r=true then do let ok ← isTrue c env (eval c env);pure (ForInStep.yield ok)else pure (ForInStep.yield r)) (λok s₃ =>
      if ok=true then wpAny (model prog w) A (eval elt env) (λx s₄ =>
       wpAny (model prog w) A (call (.builtin "list.append") [acc,x]) (λ_ s₅=>∃ m,m<n/\I m s₅) (notedBy (model prog w) A env λe s'=>R (.error e) s') s₄) (notedBy (model prog w) A env λe s'=>R (.error e) s') s₃
      else ∃ m,m<n/\I m s₃) (notedBy (model prog w) A env λe s'=>R (.error e) s') s₂) (notedBy (model prog w) A env λe s'=>R (.error e) s') s₁') (notedBy (model prog w) A env λe s'=>R (.error e) s') s₁) (notedBy (model prog w) A env λe s'=>R (.error e) s') s)
  (n:Nat) (h:I n s) :
  codeAny (model prog w) A (.compLoop (.ListComp elt [⟨target,iter,ifs,0⟩] scope pos) 0 it acc env) R s:=by
 refine codeAny_loop rfl I (λn s hI=>?_) n h;show wpAny _ A ((compTurn (.ListComp elt [⟨target,iter,ifs,0⟩] scope pos) 0 it acc env).onRaise (λx=>do noteFrame x env;theTreesLotGoes x)) _ _ s;refine wpAny_noted ?_;rw[compTurn_list];refine wpAny_bind (wpAny_standAt (wpAny_bind (wpAny_mono (turn n s hI) (λr s₁ h₁=>?_) λ_ _ h'=>h')));cases r with
 |none=>exact wpAny_pure h₁
 |some v =>
  refine wpAny_bind (wpAny_mono h₁ (λ_ s₁' h₁'=>?_) λ_ _ h'=>h');refine wpAny_bind (wpAny_mono h₁' (λ_ s₂ h₂=>wpAny_bind (wpAny_mono h₂ (λok s₃ h₃=>?_) λ_ _ h'=>h')) λ_ _ h'=>h');cases ok with
  |false=>exact wpAny_pure ⟨rfl,h₃⟩
  |true =>
   exact wpAny_bind (wpAny_bind (wpAny_mono h₃ (λx s₄ h₄=>wpAny_bind (wpAny_mono h₄ (λ_ s₅ h₅=>wpAny_pure (wpAny_pure ⟨rfl,h₅⟩)) λ_ _ h'=>h')) λ_ _ h'=>h'))
section
variable {X:Cx}
def BB (wi:TI)(g:TG)(tt:TT)(te:TE)(vs:List Nat):TE:=λσ H Q=>wi σ H λJ H1=>∀ D,H1 D=none->∃ W:Nat->Nat->Hp->Prop,(∃ m,W 0 m (i8 H1 D (.lst [])))/\∀ i m H,W i m H ->
 (J.stop i H/\Q (.ref D) H)\/(J.go i H/\∃ Nx:Hp->Prop,(∀ H',Nx H'->∃ m',m'<m/\W (i+1) m' H')/\∀ x H',J.yld i H x H'->g x (K6 σ vs) H' λσ2 H2=>K6 σ2 vs=K6 σ vs/\tt σ2 H2 λb H3 =>
  if b=true then te σ2 H3 λy H4=>∃ acc,H4 D=some (.lst acc)/\acc.length<sizeLine/\Nx (i8 H4 D (.lst (acc++[y])))else Nx H3)
theorem rZ {pins:List (Addr×Obj)}{s:Shared}{σ:St}{H:Hp}{Q:VK}{elt tg iter:Expr}{ifs:List Expr}{scope:Scope}{own:List (Str×Nat)}{pos pos':Pos}{wi:TI}{g:TG}{tt:TT}{te:TE}{use:Option (Value->Sem Unit)}{Qf:Value->Shared->Prop}
  (hc:X.calm=true) (hN:X.N.Nodup) (I:j7 X pins σ H s) (hi:PI X tg iter wi) (ok:jJ X.N X.env.scope scope own)
  (hg:∀ (s:Shared) (H:Hp) (C:Addr) (cl:List (Str×Addr)) (fp:List Addr),PG (X.blk s H scope (compEnvC scope cl C X.env) fp) tg g) (ht:∀ (s:Shared) (H:Hp) (C:Addr) (cl:List (Str×Addr)) (fp:List Addr),EI (X.blk s H scope (compEnvC scope cl C X.env) fp) ifs tt)
  (he:∀ (s:Shared) (H:Hp) (C:Addr) (cl:List (Str×Addr)) (fp:List Addr),PE (X.blk s H scope (compEnvC scope cl C X.env) fp) elt te) (hs:∀ x,foldedSetIterable iter X.env x=pure x)
  (h:BB wi g tt te (own.map (·.2)) σ H Q)
  (hRR:∀ D C s' m H',j7 X pins σ H' s'->Q (.ref D) H'->s'.heap.Ns C m->bL X pins H' C->compPost (model X.prog X.w) X.A X.xe use Qf (.ref D) C (.ok .next) s') :
  wpAny (model X.prog X.w) X.A (comprehension (.ListComp elt [⟨tg,iter,ifs,0⟩] scope pos) scope X.env pos' (newList []) false (eval iter X.env) use) Qf X.xe s:=by
 have hfree:∀ y∈scope.names,y.2=.free->∃ c,X.env.cells.lookup y.1=some c:=λy hy e=>by
  rcases ok.free y hy e with k|k
  ·exact I.ok.has _ (.inl k)
  ·exact I.ok.has _ (.inr k)
 refine wpAny_comprehension_free (use:=use) rfl hs (jC hfree) ok.kind (λy hy e=>by rw[ok.uniq y hy,e])
  (B9 (hi pins s σ H _ I h) λxv s1 hx=>B9 hx λitv s2 h2=>?_)
 obtain⟨it,fp,tn,J,H2,e,I2,T,st2,f2,q⟩:=h2;subst e;refine wpAny_newObj_type (gx ?_) (by show 0<=sizeLine;decide);generalize hD:s2.heap.objs.size=D;have hDn:H2 D=none:=I2.hok.fresh (Nat.le_of_eq hD);obtain⟨W,⟨m0,w0⟩,turn⟩:=q D hDn;generalize hs3:({ s2 with heap:=s2.heap.push { cls:=.type "list",data:=.seq ([]:List Value).toArray } }:Shared)=s3;have I3:j7 X pins σ (i8 H2 D (.lst [])) s3:=by
  rw[<-hs3];refine I2.laid (t':=s2.toks) (λb o e=>Heap.get?_push_of_some _ e) (Nat.le_of_eq hD) ⟨Nat.zero_le _,[],0,.nil,?_⟩;rw[<-hD];exact Heap.get?_push_size _ rfl
 have h3:s3.heap=s2.heap.push { cls:=.type "list",data:=.seq ([]:List Value).toArray }:=by rw[<-hs3]
 have sz:∀ b∈fp,b<s2.heap.objs.size:=λb hb=>by
  obtain⟨o,e,_⟩:=T.obj _ _ st2 b hb;exact Heap.lt_size e
 have f3:∀ b∈fp,bL X pins (i8 H2 D (.lst [])) b/\b<s3.heap.objs.size:=λb hb=>by
  have hlt:=sz b hb;refine⟨⟨?_,(f2 b hb).2⟩,by rw[h3,Heap.size_push];exact Nat.lt_succ_of_lt hlt⟩;rw[i0 (by rw[<-hD];exact Nat.ne_of_lt hlt)];exact(f2 b hb).1
 have st3:tn 0 s3.heap:=T.keep _ _ _ st2 λb _ o e=>by rw[h3];exact Heap.get?_push_of_some _ e
 have I4:=gJ I3 ok hN f3;have pg:=hg s3 (i8 H2 D (.lst [])) s3.heap.objs.size (cellsFrom (s3.heap.objs.size+1) scope.names (y6 X.env.cells scope.names [])) fp;have pt:=ht s3 (i8 H2 D (.lst [])) s3.heap.objs.size (cellsFrom (s3.heap.objs.size+1) scope.names (y6 X.env.cells scope.names [])) fp;have pe:=he s3 (i8 H2 D (.lst [])) s3.heap.objs.size (cellsFrom (s3.heap.objs.size+1) scope.names (y6 X.env.cells scope.names [])) fp;show codeAny _ _ (.compStart (.ListComp elt [⟨tg,iter,ifs,0⟩] scope pos) 0 (.ref it) (.ref D) (compEnvC scope (cellsFrom (s3.heap.objs.size+1) scope.names (y6 X.env.cells scope.names [])) s3.heap.objs.size X.env)) (compPost (model X.prog X.w) X.A X.xe use Qf (.ref D) s3.heap.objs.size) { s3 with heap:=pushCells (s3.heap.push { cls:=.type "dict",data:=.dict #[] }) scope.names };have nfp:∀ b∈fp,(i8 H2 D (.lst [])) b=none:=λb hb=>(f3 b hb).1.1;generalize hce:compEnvC scope (cellsFrom (s3.heap.objs.size+1) scope.names (y6 X.env.cells scope.names [])) s3.heap.objs.size X.env=ce at I4 pg pt pe⊢;have cL:ce.locals=s3.heap.objs.size:=by subst hce;rfl
 generalize hH3:i8 H2 D (.lst [])=H3 at I3 I4 pg pt pe w0 nfp f3;generalize hs4:({ s3 with heap:=pushCells (s3.heap.push { cls:=.type "dict",data:=.dict #[] }) scope.names }:Shared)=s4 at I4⊢;have st4:tn 0 s4.heap:=T.keep _ _ _ st3 λb _ o e=>by rw[<-hs4];exact pushCells_keeps _ _ _ _ (Heap.get?_push_of_some _ e)
 have stat:∀ {σ':St}{H':Hp}{s':Shared},j7 (X.blk s3 H3 scope ce fp) [] σ' H' s'->(∀ b∈fp,H' b=none)->∀ b∈fp,bL (X.blk s3 H3 scope ce fp) [] H' b:=λ{σ' H' s'} I' hn b hb =>
  ⟨hn b hb,(I'.ok.exf b hb).1,I'.ok.exfs b hb,.inl hb,λx c e=>(I'.ok.exf b hb).2 x c e,λp hp=>absurd (show p∈([]:List (Addr×Obj))++[] from hp) (by simp)⟩
 have loop:codeAny (model X.prog X.w) X.A (.compLoop (.ListComp elt [⟨tg,iter,ifs,0⟩] scope pos) 0 (.ref it) (.ref D) ce) (compPost (model X.prog X.w) X.A X.xe use Qf (.ref D) s3.heap.objs.size) s4:=by
  refine fo (λn s'=>∃ i H',j7 (X.blk s3 H3 scope ce fp) [] (K6 σ (own.map (·.2))) H' s'/\tn i s'.heap/\(∀ b∈fp,H' b=none)/\W i n H') ?_ m0 ⟨0,H3,I4,st4,nfp,w0⟩;rintro n s5 ⟨i,H5,I5,st5,n5,w5⟩;rcases turn i n H5 w5 with⟨stop,qq⟩|⟨go,Nx,hNx,step⟩
  ·have td:=T.done (X.blk s3 H3 scope ce fp) rfl rfl rfl hc i [] s5 _ H5 (λ_ _=>False) I5 (stat I5 n5) st5 stop;refine iy td λr s6 ⟨hr,I6⟩=>?_;subst hr;have I7:j7 X pins σ H5 s6:=I3.call' (ch:=fp) I6.os I6.base I6.hok I6.bare λb hb=>⟨(f3 b hb).1.2.2.2.1,(f3 b hb).1.2.1,(f3 b hb).1.2.2.2.2.1,(f3 b hb).1.2.2.2.2.2⟩;have nC:H5 s3.heap.objs.size=none:=by
    have z:H5 ce.locals=none:=I6.free;rw[cL]at z;exact z
   obtain⟨m,hn,_⟩:=I6.loc;have hn:s6.heap.Ns ce.locals m:=hn;rw[cL]at hn;exact hRR D s3.heap.objs.size s6 m H5 I7 qq hn (I3.fpOk (Nat.le_refl _) nC)
  ·have ti:=T.item (X.blk s3 H3 scope ce fp) rfl rfl rfl hc i [] s5 _ H5 (λ_ _=>False) I5 (stat I5 n5) st5 go;refine iy ti λr s6 ⟨u,hr,h6⟩=>?_;subst hr;refine iy h6 λ_ s7 ⟨x,H7,I7,r7,y7,st7,n7⟩=>?_;have I7':=I7.pinned (stat I7 n7) (T.obj _ _ st7);refine iy (pg _ s7 _ H7 x u _ I7' r7 (step x H7 y7)) λ_ s8 ⟨σ8,H8,I8,hw8,q8⟩=>?_;refine iy (pt _ s8 σ8 H8 _ I8 q8) λb s9 ⟨H9,I9,q9⟩=>?_;have fin:∀ {s':Shared}{H':Hp},j7 (X.blk s3 H3 scope ce fp) ([]++Y1 fp s7.heap) σ8 H' s'->Nx H'->∃ m,m<n/\∃ i H',j7 (X.blk s3 H3 scope ce fp) [] (K6 σ (own.map (·.2))) H' s'/\tn i s'.heap/\(∀ b∈fp,H' b=none)/\W i m H':=λ{s' H'} I' nx=>by
    obtain⟨m',hm,w'⟩:=hNx H' nx;have pin':∀ b∈fp,∀ o,s7.heap.get? b=some o->s'.heap.get? b=some o/\H' b=none:=λb hb o e =>
     let z:=I'.pin (b,o) (List.mem_append_right _ (List.mem_append_right _ (U5 hb e)))
     ⟨z.1,z.2.1⟩
    have hl:(K6 σ (own.map (·.2))).length=σ8.length:=by rw[<-hw8,V3]
    refine⟨m',hm,i+1,H',(I'.unpinned (pins:=[])).weak hl (λj v e=>?_),T.keep _ _ _ st7 λb hb o e=>(pin' b hb o e).1,λb hb=>?_,w'⟩
    ·rw[<-hw8]at e;exact(cJ e).1
    ·obtain⟨o,e,_⟩:=T.obj _ _ st7 b hb;exact(pin' b hb o e).2
   cases b with
   |false =>
    simp only[Bool.false_eq_true,if_false]at q9⊢;exact fin I9 q9
   |true =>
    simp only[if_true]at q9⊢;refine iy (pe _ s9 σ8 H9 _ I9 q9) λz s10 ⟨yv,H10,I10,r10,acc,hD10,hz10,nx⟩=>?_;exact yr (X:=X.blk s3 H3 scope ce fp) I10 hD10 hz10 r10 λs11 I11=>fin I11 nx
 exact codeAny_compStart_list loop (T.self X.A 0 _ _ _ st4 loop)
theorem AY {elt tg iter:Expr}{ifs:List Expr}{scope:Scope}{own:List (Str×Nat)}{pos:Pos}{wi:TI}{g:TG}{tt:TT}{te:TE}(hc:X.calm=true)(hN:X.N.Nodup)(hi:PI X tg iter wi)(ok:jJ X.N X.env.scope scope own)
  (hg:∀ (s:Shared) (H:Hp) (C:Addr) (cl:List (Str×Addr)) (fp:List Addr),PG (X.blk s H scope (compEnvC scope cl C X.env) fp) tg g) (ht:∀ (s:Shared) (H:Hp) (C:Addr) (cl:List (Str×Addr)) (fp:List Addr),EI (X.blk s H scope (compEnvC scope cl C X.env) fp) ifs tt)
  (he:∀ (s:Shared) (H:Hp) (C:Addr) (cl:List (Str×Addr)) (fp:List Addr),PE (X.blk s H scope (compEnvC scope cl C X.env) fp) elt te) (hs:∀ x,foldedSetIterable iter X.env x=pure x:=by intro _;rfl) :
  PE X (.ListComp elt [⟨tg,iter,ifs,0⟩] scope pos) (BB wi g tt te (own.map (·.2))):=by
 intro pins s σ H Q I h;rw[eval_ListComp];refine rZ hc hN I hi ok hg ht he hs h λD C s' m H' I' q hn f=>⟨m,hn,λh'' sb=>?_⟩;obtain⟨f0,f1,f2,f3,f4,f5⟩:=f;exact⟨.ref D,H',I'.turned (t':=s'.toks) (λb o hb e=>(sb.2 b hb).trans e) f0 f1 f3 f4 f5,rfl,q⟩
theorem iU {i:Nat}{y:Str}{py:Pos}{elt tg iter:Expr}{ifs:List Expr}{scope:Scope}{own:List (Str×Nat)}{pos spos:Pos}{wi:TI}{g:TG}{tt:TT}{te:TE}(hc:X.calm=true)(hN:X.N.Nodup)(hy:X.N[i]?=some y)(hyl:X.env.scope.names.lookup y=some .local)
  (hsw:swapsWith (.ListComp elt [⟨tg,iter,ifs,0⟩] scope pos) (some (.Name y py)) spos.line X.env=pure true) (hi:PI X tg iter wi) (ok:jJ X.N X.env.scope scope own)
  (hg:∀ (s:Shared) (H:Hp) (C:Addr) (cl:List (Str×Addr)) (fp:List Addr),PG (X.blk s H scope (compEnvC scope cl C X.env) fp) tg g) (ht:∀ (s:Shared) (H:Hp) (C:Addr) (cl:List (Str×Addr)) (fp:List Addr),EI (X.blk s H scope (compEnvC scope cl C X.env) fp) ifs tt)
  (he:∀ (s:Shared) (H:Hp) (C:Addr) (cl:List (Str×Addr)) (fp:List Addr),PE (X.blk s H scope (compEnvC scope cl C X.env) fp) elt te) (hs:∀ x,foldedSetIterable iter X.env x=pure x:=by intro _;rfl) :
  PS X (.Assign [.Name y py] (.ListComp elt [⟨tg,iter,ifs,0⟩] scope pos) spos) (BE (BB wi g tt te (own.map (·.2))) (dw i)):=by
 intro pins s σ H D I h;rw[exec_Assign_Name_used _ _ _ _ hsw];refine wpAny_bind (wpAny_standAt (wpAny_bind ?_));show wpAny _ X.A (do let _ ← comprehension (.ListComp elt [⟨tg,iter,ifs,0⟩] scope pos) scope X.env (firstIterPos [⟨tg,iter,ifs,0⟩] pos) (newList []) false (eval iter X.env) (some (assign (.Name y py) X.env))) _ _ s;have h:BB wi g tt te (own.map (·.2)) σ H (λx H1=>dw i x σ H1 D.nx):=h;refine wpAny_bind (B9 (rZ (Qf:=λ_ s'=>SP X pins D .next s') hc hN I hi ok hg ht he hs h λL C s' m H' I' q hn f=>?_) λ_ s' hq=>wpAny_pure (wpAny_pure hq));show wpAny _ _ (assign (.Name y py) X.env (.ref L)) _ _ _;refine wpAny_assign_Name (cK (v:=V.ref L) I' hN hy (.inl hyl) rfl (λs2 I2 ⟨a,sb,ha⟩=>?_) (.inr hyl));obtain⟨f0,f1,f2,f3,f4,f5⟩:=f;have haC:C≠a:=by
  rcases ha with z|z
  ·rw[z];exact f1
  ·exact λe=>f4 y a z e.symm
 refine⟨m,hn.sameBut sb haC,λh3 sb3=>?_⟩;exact⟨_,H',I2.turned (t':=s2.toks) (λb o hb e=>(sb3.2 b hb).trans e) f0 f1 f3 f4 f5,q⟩
theorem aC {elt:Expr}{gs:List Comprehension}{scope:Scope}{pos py:Pos}{y:Str}{l:Nat}{env:Env}(hk:env.scope.kind=.function)(hy:env.scope.names.lookup y=some .local)(hl:(py.line==pos.line)=true)
  (ha:(scope.names.any λ(n,k)=>n==y&&(k==.local||k==.cell))=false):swapsWith (.ListComp elt gs scope pos) (some (.Name y py)) l env=pure true:=by
 have ky:env.kindOf y=some .local:=hy;have hb:env.blockKind=.function:=by unfold Env.blockKind;rw[hk];rfl
 unfold swapsWith;simp only[hb,ky,ha,Expr.pos,hl];rfl
end
theorem eU {K:W.Frag}{a:Addr}{xs:List V}{g:TG}{tt:TT}{te:TE}{vs:List Nat}{σ:St}{H1:Hp}{D:Addr}{Qd:Hp->Prop}(Pv:Nat->Hp->Prop)(h0:Pv 0 (i8 H1 D (.lst [])))(hl:∀ i H,i<=xs.length->Pv i H->C9 K H a xs)
  (hs:∀ i x H,xs[i]?=some x->Pv i H->g x (K6 σ vs) H λσ2 H2=>K6 σ2 vs=K6 σ vs/\tt σ2 H2 λb H3 =>
   if b=true then te σ2 H3 λy H4=>∃ acc,H4 D=some (.lst acc)/\acc.length<sizeLine/\Pv (i+1) (i8 H4 D (.lst (acc++[y])))else Pv (i+1) H3) (hd:∀ H,Pv xs.length H->Qd H) :
  ∃ W:Nat->Nat->Hp->Prop,(∃ m,W 0 m (i8 H1 D (.lst [])))/\∀ i m H,W i m H ->
   ((Br K a).stop i H/\Qd H)\/((Br K a).go i H/\∃ Nx:Hp->Prop,(∀ H',Nx H'->∃ m',m'<m/\W (i+1) m' H')/\∀ x H',(Br K a).yld i H x H'->g x (K6 σ vs) H' λσ2 H2=>K6 σ2 vs=K6 σ vs/\tt σ2 H2 λb H3 =>
    if b=true then te σ2 H3 λy H4=>∃ acc,H4 D=some (.lst acc)/\acc.length<sizeLine/\Nx (i8 H4 D (.lst (acc++[y])))else Nx H3):=by
 refine⟨λi m H=>m=xs.length-i/\i<=xs.length/\Pv i H,⟨xs.length,by simp,Nat.zero_le _,h0⟩,?_⟩;rintro i m H ⟨rfl,hi,p⟩;have q:=hl i H hi p;by_cases hlt:i<xs.length
 ·refine .inr ⟨⟨xs,xs[i],q,by simp[hlt]⟩,Pv (i+1),λH' p'=>⟨xs.length-(i+1),by omega,rfl,hlt,p'⟩,λx H' y=>?_⟩;obtain⟨e,y⟩:=y;subst e;exact hs i x _ (y xs q) p
 ·have e:i=xs.length:=by omega
  subst e;exact .inl ⟨⟨xs,q,Nat.le_refl _⟩,hd H p⟩
def jG (N:List Str)(sc scope:Scope)(own:List (Str×Nat)):Bool :=
 (match scope.kind with|.function=>true|_=>false)&&(scope.names.all λy=>decide (scope.names.lookup y.1=some y.2))&&(own.all λp=>decide (N[p.2]?=some p.1)) &&
  (scope.names.all λy=>match y.2 with
   |.free=>(match sc.names.lookup y.1 with|some .cell=>true|some .free=>true|_=>false)
   |.local=>decide (y.1∈own.map (·.1))||decide (y.1∉N)
   |.cell=>decide (y.1∈own.map (·.1))||decide (y.1∉N)
   |_=>true)
theorem N7 {N:List Str}{sc scope:Scope}{own:List (Str×Nat)}(h:jG N sc scope own=true):jJ N sc scope own:=by
 unfold jG at h;simp only[Bool.and_eq_true,List.all_eq_true,decide_eq_true_eq]at h;obtain⟨⟨⟨h1,h2⟩,h3⟩,h4⟩:=h;refine⟨?_,h2,h3,λy hy e=>?_,λy hy e=>?_⟩
 ·split at h1
  ·assumption
  ·cases h1
 ·have q:=h4 y hy;simp only[e]at q;split at q<;>first|exact .inl (by assumption)|exact .inr (by assumption)|cases q
 ·have q:=h4 y hy;rcases e with e|e<;>(simp only[e,Bool.or_eq_true,decide_eq_true_eq]at q;exact q)
section
variable {κ:Type}[DecidableEq κ]
def V2 (kvs:List (κ×V))(k:κ):Option V:=(kvs.find? λkv=>decide (kv.1=k)).map (·.2)
def fT (kvs:List (κ×V))(k:κ)(v:V):List (κ×V) :=
 if(kvs.any λkv=>decide (kv.1=k))=true then kvs.map (λkv=>if kv.1=k then(kv.1,v)else kv)else kvs++[(k,v)]
theorem bQ {p:κ×V}{r:List (κ×V)}{k:κ}(e:p.1=k):V2 (p::r) k=some p.2:=by simp[V2,List.find?_cons,e]
theorem bU {p:κ×V}{r:List (κ×V)}{k:κ}(e:¬ p.1=k):V2 (p::r) k=V2 r k:=by simp[V2,List.find?_cons,e]
theorem ip (k:κ):∀ kvs:List (κ×V),(kvs.any λkv=>decide (kv.1=k))=(V2 kvs k).isSome
 |[]=>rfl
 |p::r=>by
  rw[List.any_cons];by_cases e:p.1=k
  ·simp only[bQ e,decide_eq_true e,Bool.true_or,Option.isSome_some]
  ·rw[bU e,decide_eq_false e,Bool.false_or];exact ip k r
theorem gz (kvs:List (κ×V))(k:κ)(v:V):(fT kvs k v).length<=kvs.length+1:=by
 unfold fT;split
 ·rw[List.length_map];omega
 ·rw[List.length_append,List.length_cons,List.length_nil];omega
theorem nH {kvs:List (κ×V)}{k:κ}(v:V)(h:V2 kvs k=none):fT kvs k v=kvs++[(k,v)]:=by
 unfold fT;rw[ip,h];exact if_neg (by decide)
theorem ax.isSome_eq {o:Option V}{u:Option Value}(r:ax o u):o.isSome=u.isSome:=by
 cases o with
 |none=>cases u with
  |none=>rfl
  |some _=>exact(show False from r).elim
 |some _=>cases u with
  |none=>exact(show False from r).elim
  |some _=>rfl
theorem KV.val {kvs:List (κ×V)}{vs:List (κ×Value)}(r:KV kvs vs)(k:κ):ax (V2 kvs k) (valueAt vs k):=by
 unfold KV at r
 induction r with
 |nil=>exact True.intro
 |@cons p q ps qs h t ih =>
  obtain⟨h1,h2⟩:=h;by_cases e:p.1=k
  ·have e':q.1=k:=h1.symm.trans e;have b:valueAt (q::qs) k=some q.2:=by simp[valueAt,List.find?_cons,e']
   rw[bQ e,b];exact h2
  ·have e':¬ q.1=k:=λz=>e (h1.trans z);have b:valueAt (q::qs) k=valueAt qs k:=by simp[valueAt,List.find?_cons,e']
   rw[bU e,b];exact ih
theorem KV.any {kvs:List (κ×V)}{vs:List (κ×Value)}(r:KV kvs vs)(k:κ):(kvs.any λkv=>decide (kv.1=k))=vs.any λkv=>decide (kv.1=k):=by
 unfold KV at r
 induction r with
 |nil=>rfl
 |cons h t ih=>rw[List.any_cons,List.any_cons,ih,h.1]
theorem KV.repl {kvs:List (κ×V)}{vs:List (κ×Value)}(r:KV kvs vs)(k:κ){y:V}{u:Value}(ry:A0 y u) :
  KV (kvs.map λkv=>if kv.1=k then(kv.1,y)else kv) (vs.map λkv=>if kv.1=k then(kv.1,u)else kv):=by
 unfold KV at r⊢
 induction r with
 |nil=>exact .nil
 |@cons p q ps qs h t ih =>
  rw[List.map_cons,List.map_cons];refine .cons ?_ ih;obtain⟨h1,h2⟩:=h;by_cases e:p.1=k
  ·rw[if_pos e,if_pos (h1.symm.trans e)];exact⟨h1,ry⟩
  ·rw[if_neg e,if_neg (λz=>e (h1.trans z))];exact⟨h1,h2⟩
theorem KV.put {kvs:List (κ×V)}{vs:List (κ×Value)}(r:KV kvs vs)(k:κ){y:V}{u:Value}(ry:A0 y u):KV (fT kvs k y) (stored vs k u):=by
 unfold fT stored;rw[r.any k];by_cases e:(vs.any λkv=>decide (kv.1=k))=true
 ·rw[if_pos e,if_pos e];exact r.repl k ry
 ·rw[if_neg e,if_neg e];exact Paired.snoc r ⟨rfl,ry⟩
theorem KV.length {kvs:List (κ×V)}{vs:List (κ×Value)}(r:KV kvs vs):kvs.length=vs.length:=Paired.length r
end
theorem oQ {P:Program}{w:World}{k:M8}{u:Value}(r:A0 (kV k) u):(L3 P w).is k u=true:=by
 cases k with
 |inl i=>obtain⟨t,e⟩:=(show ∃ t,u=Value.int i t from r);subst e;exact oj P w i t
 |inr x=>obtain⟨t,e⟩:=(show ∃ t,u=Value.str x t from r);subst e;exact oh P w x t
theorem kH {P:Program}{w:World}:∀ {ks:List M8}{us:List Value},x9 (ks.map kV) us->ItemsAre (L3 P w) ks us
 |[],_,r=>by rw[List.map_nil]at r;cases r;exact .nil
 |k::ks,_,r=>by
  rw[List.map_cons]at r;cases r with
  |cons h t=>exact .cons (oQ h) (kH t)
abbrev KT (H:Hp):List (List M8×V)->List (List M8×Addr×Value)->Prop:=Paired λp q=>p.1=q.1/\H q.2.1=some (.tup (p.1.map kV))/\A0 p.2 q.2.2
theorem KT.val {H:Hp}{kvs:List (List M8×V)}{xs:List (List M8×Addr×Value)}(r:KT H kvs xs)(k:List M8):ax (V2 kvs k) ((atKey xs k).map (·.2)):=by
 induction r with
 |nil=>exact True.intro
 |@cons p q ps qs h t ih =>
  obtain⟨h1,_,h2⟩:=h;by_cases e:p.1=k
  ·have e':q.1=k:=h1.symm.trans e;have b:atKey (q::qs) k=some q.2:=by simp[atKey,List.find?_cons,e']
   rw[bQ e,b];exact h2
  ·have e':¬ q.1=k:=λz=>e (h1.trans z);have b:atKey (q::qs) k=atKey qs k:=by simp[atKey,List.find?_cons,e']
   rw[bU e,b];exact ih
theorem KT.repl {H:Hp}{kvs:List (List M8×V)}{xs:List (List M8×Addr×Value)}(r:KT H kvs xs)(k:List M8){y:V}{u:Value}(ry:A0 y u) :
  KT H (kvs.map λkv=>if kv.1=k then(kv.1,y)else kv) (xs.map (putAt k u)):=by
 induction r with
 |nil=>exact .nil
 |@cons p q ps qs h t ih =>
  rw[List.map_cons,List.map_cons];refine .cons ?_ ih;obtain⟨h1,h2,h3⟩:=h;unfold putAt;by_cases e:p.1=k
  ·rw[if_pos e,if_pos (h1.symm.trans e)];exact⟨h1,h2,ry⟩
  ·rw[if_neg e,if_neg (λz=>e (h1.trans z))];exact⟨h1,h2,h3⟩
theorem KT.put {H:Hp}{kvs:List (List M8×V)}{xs:List (List M8×Addr×Value)}(r:KT H kvs xs)(k:List M8){b:Addr}{y:V}{u:Value}(hb:H b=some (.tup (k.map kV)))(ry:A0 y u) :
  KT H (fT kvs k y) (storedH xs k b u):=by
 have e:(kvs.any λkv=>decide (kv.1=k))=(atKey xs k).isSome:=by
  rw[ip,(r.val k).isSome_eq,Option.isSome_map]
 unfold fT storedH;rw[e];by_cases q:(atKey xs k).isSome=true
 ·rw[if_pos q,if_pos q];exact r.repl k ry
 ·rw[if_neg q,if_neg q];exact Paired.snoc r ⟨rfl,hb,ry⟩
theorem KT.keeps {H H':Hp}{kvs:List (List M8×V)}{xs:List (List M8×Addr×Value)}(r:KT H kvs xs)(ht:∀ b ys,H b=some (.tup ys)->H' b=some (.tup ys)):KT H' kvs xs :=
 Paired.mapP r λ_ _ z=>⟨z.1,ht _ _ z.2.1,z.2.2⟩
section
variable {P:Program}{w:World}{H:Hp}{h:Heap}{a:Addr}
theorem AX {u:HO}(ok:ay P w H h)(e:Rd H a u):y3 P w H h a u:=e.ok ok
theorem pw {kvs:List (M8×V)}(ok:ay P w H h)(e:Rd H a (.dK kvs)):kvs.length<=sizeLine/\(a==sysModules)=false/\∃ vs,KV kvs vs/\h.DictOf (L3 P w) a vs :=
 show y3 P w H h a (.dK kvs) from AX ok e
theorem FS {kvs:List (M8×V)}(ok:ay P w H h)(e:H a=some (.dK kvs)):kvs.length<=sizeLine/\(a==sysModules)=false/\∃ vs,KV kvs vs/\h.DictOf (L3 P w) a vs:=pw ok (.inl e)
theorem jq {ks:List M8}(ok:ay P w H h)(e:H a=some (.tup (ks.map kV))):(tupleKind (L3 P w)).is h ks a:=by
 obtain⟨_,its,r,o,h1,h2,n,h3⟩:=(show y3 P w H h a (.tup (ks.map kV)) from ok a _ e);exact⟨o,its.toArray,n,h1,h2,h3,by simpa using kH r⟩
theorem pq {kvs:List (List M8×V)}(ok:ay P w H h)(e:Rd H a (.dT kvs)):kvs.length<=sizeLine/\(a==sysModules)=false /\
  ∃ xs,KT H kvs xs/\h.DictOfH (tupleKind (L3 P w)) a xs:=by
 obtain⟨z,y,xs,r,o,es,ep,h1,h2,h3,h4,h5⟩:=(show y3 P w H h a (.dT kvs) from AX ok e);refine⟨z,y,xs,r,o,es,ep,h1,h2,h3,h4,λx hx=>?_,h5⟩;have all:∀ {l:List (List M8×V)}{m:List (List M8×Addr×Value)},KT H l m->∀ x∈m,(tupleKind (L3 P w)).is h x.1 x.2.1:=by
  intro l m q
  induction q with
  |nil=>intro x hx;exact nomatch hx
  |@cons p q ps qs hq t ih =>
   intro x hx;rcases List.mem_cons.mp hx with e|hx
   ·subst e;exact jq ok (by rw[<-hq.1];exact hq.2.1)
   ·exact ih x hx
 exact all r x hx
theorem FR {kvs:List (List M8×V)}(ok:ay P w H h)(e:H a=some (.dT kvs)):kvs.length<=sizeLine/\(a==sysModules)=false /\
  ∃ xs,KT H kvs xs/\h.DictOfH (tupleKind (L3 P w)) a xs:=pq ok (.inl e)
end
def gU (H:Hp)(a:Addr)(y:V)(r:Option V):Prop :=
 (∃ kvs k,Rd H a (.dK kvs)/\y=kV k/\r=V2 kvs k)\/∃ kvs k b,Rd H a (.dT kvs)/\y=.ref b/\H b=some (.tup (k.map kV))/\r=V2 kvs k
def uT (H:Hp)(a:Addr)(y v:V)(H':Hp):Prop :=
 (∃ kvs k,H a=some (.dK kvs)/\y=kV k/\kvs.length<sizeLine/\H'=i8 H a (.dK (fT kvs k v))) \/
 ∃ kvs k b,H a=some (.dT kvs)/\y=.ref b/\H b=some (.tup (k.map kV))/\kvs.length<sizeLine/\H'=i8 H a (.dT (fT kvs k v))
theorem gU.t {H:Hp}{a b:Addr}{kvs:List (List M8×V)}{k:List M8}(e:H a=some (.dT kvs))(eb:H b=some (.tup (k.map kV))):gU H a (.ref b) (V2 kvs k):=.inr ⟨kvs,k,b,.inl e,rfl,eb,rfl⟩
theorem uT.t {H:Hp}{a b:Addr}{kvs:List (List M8×V)}{k:List M8}{v:V}(e:H a=some (.dT kvs))(eb:H b=some (.tup (k.map kV)))(hl:kvs.length<sizeLine) :
  uT H a (.ref b) v (i8 H a (.dT (fT kvs k v))):=.inr ⟨kvs,k,b,e,rfl,eb,hl,rfl⟩
section
variable {X:Cx}{pins:List (Addr×Obj)}{σ:St}{H:Hp}{s:Shared}{a:Addr}{y v:V}{u r:Value}{o:Option V}{A:Around}{E:Value->Shared->Prop}
theorem j7.big (I:j7 X pins σ H s):sysModules<s.heap.objs.size:=by
 have h:mainGlobals<s.heap.objs.size:=(I.mod.glob.keeps I.bk).lt;exact Nat.lt_trans (by decide) h
theorem uM {Q:Value->Shared->Prop}(hu:A.units+1<cLine)(I:j7 X pins σ H s)(g:gU H a y (some v))(ry:A0 y u)(h:∀ w' s',j7 X pins σ H s'->A0 v w'->Q w' s') :
  wpAny (model X.prog X.w) A (getItem (.ref a) u) Q E s:=by
 rcases g with⟨kvs,k,e,ey,l⟩|⟨kvs,k,b,e,ey,eb,l⟩
 ·subst ey;obtain⟨z,hd,vs,rel,dd⟩:=pw I.hok e;obtain⟨w',hw,rw'⟩:=ax.some_of (v:=v) (o:=valueAt vs k) (by rw[l];exact rel.val k);exact wpAny_getItem_of (oQ ry) dd.mapOf hw (h w' _ (I.tok _) rw')
 ·subst ey;cases(show u=Value.ref b from ry);obtain⟨z,hd,xs,rel,dd⟩:=pq I.hok e;obtain⟨w',hw,rw'⟩:=ax.some_of (v:=v) (o:=(atKey xs k).map (·.2)) (by rw[l];exact rel.val k);obtain⟨p,hp,hp2⟩:=Option.map_eq_some_iff.mp hw;refine wpAny_getItem_heap (tupleKind_room_in1 hu) (jq I.hok eb) dd hp ?_;rw[hp2];exact h w' _ (I.tok _) rw'
theorem GK {Q:Value->Shared->Prop}(hu:A.units+1<cLine)(I:j7 X pins σ H s)(g:gU H a y o)(ry:A0 y u)(h:∀ s',j7 X pins σ H s'->Q (.bool o.isSome) s') :
  wpAny (model X.prog X.w) A (compareOp .In u (.ref a)) Q E s:=by
 rcases g with⟨kvs,k,e,ey,l⟩|⟨kvs,k,b,e,ey,eb,l⟩
 ·subst ey;obtain⟨z,hd,vs,rel,dd⟩:=pw I.hok e;refine wpAny_in_of (oQ ry) hd dd.mapOf ?_;rw[<-(rel.val k).isSome_eq,<-l];exact h _ (I.tok _)
 ·subst ey;cases(show u=Value.ref b from ry);obtain⟨z,hd,xs,rel,dd⟩:=pq I.hok e;refine wpAny_in_heap (tupleKind_room_in1 hu) (jq I.hok eb) hd dd ?_;have q:=(rel.val k).isSome_eq;rw[Option.isSome_map]at q;rw[<-q,<-l];exact h _ (I.tok _)
theorem Au {Q:Value->Shared->Prop}(hu:A.units+1<cLine)(I:j7 X pins σ H s)(g:gU H a y o)(ry:A0 y u)(h:∀ s',j7 X pins σ H s'->Q (.bool (!o.isSome)) s') :
  wpAny (model X.prog X.w) A (compareOp .NotIn u (.ref a)) Q E s:=by
 rcases g with⟨kvs,k,e,ey,l⟩|⟨kvs,k,b,e,ey,eb,l⟩
 ·subst ey;obtain⟨z,hd,vs,rel,dd⟩:=pw I.hok e;refine wpAny_notIn_of (oQ ry) hd dd.mapOf ?_;rw[<-(rel.val k).isSome_eq,<-l];exact h _ (I.tok _)
 ·subst ey;cases(show u=Value.ref b from ry);obtain⟨z,hd,xs,rel,dd⟩:=pq I.hok e;refine wpAny_notIn_heap (tupleKind_room_in1 hu) (jq I.hok eb) hd dd ?_;have q:=(rel.val k).isSome_eq;rw[Option.isSome_map]at q;rw[<-q,<-l];exact h _ (I.tok _)
theorem sQ {h':Heap}{t':Nat}{ob:HO}(I:j7 X pins σ H s)(mu:FZ (H a))(hs:Heap.SameBut a s.heap h')(he:∃ q,h'.get? a=some q)(new:y3 X.prog X.w (i8 H a ob) h' a ob) :
  j7 X pins σ (i8 H a ob) { s with heap:=h',toks:=t' } :=
 I.write (x:=a) (e:=a) mu (.inl rfl) (λb q hb z=>(hs.2 b hb).trans z) he new
theorem Eo {P:Program}{w:World}{H':Hp}{h':Heap}{kvs:List (M8×V)}{vs:List (M8×Value)}(z:kvs.length<=sizeLine)(hd:(a==sysModules)=false)(rel:KV kvs vs)(dd:h'.DictOf (L3 P w) a vs) :
  y3 P w H' h' a (.dK kvs):=⟨z,hd,vs,rel,dd⟩
theorem uL {H':Hp}{Q:Unit->Shared->Prop}(hu:A.units+1<cLine)(I:j7 X pins σ H s)(g:uT H a y v H')(ry:A0 y u)(rv:A0 v r)(h:∀ s',j7 X pins σ H' s'->Q () s') :
  wpAny (model X.prog X.w) A (setItem (.ref a) u r) Q E s:=by
 rcases g with⟨kvs,k,e,ey,l,eH⟩|⟨kvs,k,b,e,ey,eb,l,eH⟩
 ·subst ey eH;obtain⟨z,hd,vs,rel,dd⟩:=FS I.hok e;have hz:vs.length<=sizeLine:=by rw[<-rel.length];exact z
  have hl:(fT kvs k v).length<=sizeLine:=by have:=gz kvs k v;omega
  refine wpAny_setItem_pairs (hsz:=hz) (oQ ry) dd λh' dd' hs=>h _ ?_;have he:∃ q,h'.get? a=some q:=let⟨q,_,_,hq,_⟩:=dd';⟨q,hq⟩;exact sQ I (by rw[e];exact True.intro) hs he (Eo hl hd (rel.put k rv) dd')
 ·subst ey eH;cases(show u=Value.ref b from ry);obtain⟨z,hd,xs,rel,dd⟩:=FR I.hok e;have hz:xs.length<=sizeLine:=by rw[<-Paired.length rel];exact z
  have hl:(fT kvs k v).length<=sizeLine:=by have:=gz kvs k v;omega
  refine wpAny_setItem_heap (hsz:=hz) (tupleKind_room_in1 hu) (jq I.hok eb) dd λh' dd' hs=>h _ ?_;obtain⟨q,es,ep,hq,h2,h3,h4,_,h5⟩:=dd';refine sQ I (by rw[e];exact True.intro) hs ⟨q,hq⟩ ⟨hl,hd,_,(rel.put k eb rv).keeps λc ys ec=>?_,q,es,ep,hq,h2,h3,h4,h5⟩;rw[i0 (Be ec e (λz=>nomatch z))];exact ec
end
def FY (i:Expr):Prop:=∀ ov iv,subscripted i false ov iv=operate [ov,iv] (getItem ov iv)
theorem yN {prog:Program}{w:World}{A:Around}{E:Value->Shared->Prop}{s:Shared}{env:Env}{value slice:Expr}{pos:Pos}{T id:String}{Q:Value->Shared->Prop}
  (hl:typeLookup (.type T) "__getitem__"=pure (some (.builtin id))) (hs:FY slice)
  (h:wpAny (model prog w) A (eval value env) (λo s₁=>wpAny (model prog w) A (eval slice env) (λi s₂=>s₂.TypeIs o T/\wpAny (model prog w) A (getItem o i) Q E s₂) E s₁) E s) :
  wpAny (model prog w) A (eval (.Subscript value slice pos) env) Q E s:=by
 refine Subscript_ (wpAny_mono h (λo s₁ h₁=>wpAny_mono h₁ (λi s₂ h₂=>?_) λ_ _ x=>x) λ_ _ x=>x);obtain⟨hT,h₂⟩:=h₂;unfold subscriptTail;refine wpAny_bind ?_;rw[getitemInPython_of_ne hT.not_modules];refine wpAny_bind (wpAny_specialOf hT hl ?_);have fin:wpAny (model prog w) A (subscripted slice false o i) (λr s₃=>wpAny (model prog w) A (letTemporaryGo value o r >>= λ_=>pure r) Q E s₃) E s₂:=by
  rw[hs o i];exact wpAny_operating (wpAny_mono h₂ (λr s₃ h₃=>wpAny_bind (wpAny_letTemporaryGo (wpAny_pure h₃))) λ_ _ x=>x)
 first
  |exact wpAny_pure (wpAny_bind fin)
  |exact wpAny_bind (wpAny_pure (wpAny_bind fin))
  |exact wpAny_bind fin
theorem pz {X:Cx}{pins:List (Addr×Obj)}{σ:St}{H:Hp}{s:Shared}{a:Addr}{y:V}{o:Option V}(I:j7 X pins σ H s)(g:gU H a y o):s.TypeIs (.ref a) "dict":=by
 rcases g with⟨kvs,k,e,_,_⟩|⟨kvs,k,b,e,_,_,_⟩
 ·obtain⟨_,_,vs,_,dd⟩:=pw I.hok e;exact dd.typeIs
 ·obtain⟨_,_,xs,_,dd⟩:=pq I.hok e;exact dd.typeIs
def ET (td ty:TE):TE:=λσ H Q=>td σ H λx H1=>ty σ H1 λy H2=>∃ a v,x=.ref a/\gU H2 a y (some v)/\Q v H2
def Gr (ty td:TE):TE:=λσ H Q=>ty σ H λy H1=>td σ H1 λx H2=>∃ a o,x=.ref a/\gU H2 a y o/\Q (.bl o.isSome) H2
def yM (ty td:TE):TE:=λσ H Q=>ty σ H λy H1=>td σ H1 λx H2=>∃ a o,x=.ref a/\gU H2 a y o/\Q (.bl (!o.isSome)) H2
def Fk (td ty tv:TE):TS:=λD σ H=>tv σ H λv H1=>td σ H1 λx H2=>ty σ H2 λy H3=>∃ a H4,x=.ref a/\uT H3 a y v H4/\D.nx σ H4
section
variable {X:Cx}{o i e value:Expr}{pos pos' tpos:Pos}{td ty tv:TE}
theorem zl (hu:X.A.units+1<cLine)(ho:PE X o td)(hi:PE X i ty)(hs:FY i):PE X (.Subscript o i pos) (ET td ty):=by
 intro pins s σ H Q I h;refine yN PySem.F.slot_dict_getitem.lookup hs (B9 (ho pins s σ H _ I h) λu s1 ⟨x,H1,I1,rx,q1⟩=>B9 (hi pins s1 σ H1 _ I1 q1) λiv s2 ⟨y,H2,I2,ry,a,v,ex,g,q2⟩=>?_);subst ex;obtain rfl:u=Value.ref a:=rx;exact⟨pz I2 g,uM hu I2 g ry λw' s3 I3 rw'=>⟨v,H2,I3,rw',q2⟩⟩
theorem Ci (hu:X.A.units+1<cLine)(hi:PE X i ty)(ho:PE X o td):PC X .In i o (Gr ty td):=by
 intro pins s σ H Q I h;refine B9 (hi pins s σ H _ I h) λiv s1 ⟨y,H1,I1,ry,q1⟩=>B9 (ho pins s1 σ H1 _ I1 q1) λu s2 ⟨x,H2,I2,rx,a,ov,ex,g,q2⟩=>?_;subst ex;obtain rfl:u=Value.ref a:=rx;exact GK hu I2 g ry λs3 I3=>⟨.bl ov.isSome,H2,I3,rfl,q2⟩
theorem tZ (hu:X.A.units+1<cLine)(hi:PE X i ty)(ho:PE X o td):PC X .NotIn i o (yM ty td):=by
 intro pins s σ H Q I h;refine B9 (hi pins s σ H _ I h) λiv s1 ⟨y,H1,I1,ry,q1⟩=>B9 (ho pins s1 σ H1 _ I1 q1) λu s2 ⟨x,H2,I2,rx,a,ov,ex,g,q2⟩=>?_;subst ex;obtain rfl:u=Value.ref a:=rx;exact Au hu I2 g ry λs3 I3=>⟨.bl (!ov.isSome),H2,I3,rfl,q2⟩
theorem rN (hu:X.A.units+1<cLine)(ho:PE X o td)(hi:PE X i ty)(hv:PE X value tv)(hs:swapsWith value (some (.Subscript o i pos')) pos.line X.env=pure false) :
  PS X (.Assign [.Subscript o i pos'] value pos) (Fk td ty tv):=by
 intro pins s σ H D I h;refine wpAny_Assign_Subscript (B9 (hv pins s σ H _ I h) λr s1 ⟨v,H1,I1,rv,q1⟩=>B9 (ho pins s1 σ H1 _ I1 q1) λu s2 ⟨x,H2,I2,rx,q2⟩=>B9 (hi pins s2 σ H2 _ I2 q2) λiv s3 ⟨y,H3,I3,ry,a,H4,ex,g,q3⟩=>?_) hs;subst ex;obtain rfl:u=Value.ref a:=rx;exact uL hu I3 g ry rv λs4 I4=>⟨σ,H4,I4,q3⟩
end
theorem yk {P:Program}{w:World}{H:Hp}(h:Heap)(hb:sysModules<h.objs.size):y3 P w H (h.push { cls:=.type "dict",data:=.dict #[] }) h.objs.size (.dT []) :=
 ⟨Nat.zero_le _,beq_eq_false_iff_ne.mpr (Ne.symm (Nat.ne_of_lt hb)),[],.nil,_,#[],0,Heap.get?_push_size _ rfl,⟨rfl,rfl,rfl⟩,rfl,rfl,List.nodup_nil⟩
def BC:TE:=λ_ H Q=>∀ p,H p=none->Q (.ref p) (i8 H p (.dT []))
section
variable {X:Cx}{pos:Pos}
theorem nO:PE X (.Dict [] [] pos) BC:=λpins s σ H Q I h =>
 wpAny_Dict_empty ⟨.ref s.heap.objs.size,_,I.laid (a:=s.heap.objs.size) (o:=.dT []) (t':=s.toks) (λ_ _ q=>Heap.get?_push_of_some _ q) (Nat.le_refl _) (yk s.heap I.big),rfl,h _ (I.hok.fresh (Nat.le_refl _))⟩
end
section
variable {X:Cx}{pins:List (Addr×Obj)}{σ:St}{H:Hp}{s:Shared}{h':Heap}
theorem j7.turnedL {t':Nat}{ch:List Addr}(I:j7 X pins σ H s)(k:∀ b o,b∉ch->s.heap.get? b=some o->h'.get? b=some o)(hf:∀ b∈ch,bL X pins H b):j7 X pins σ H { s with heap:=h',toks:=t' }:=by
 have nit:∀ b u,H b=some u->b∉ch:=λb u e z=>by
  have q:=(hf b z).1;rw[q]at e;cases e
 refine I.step (g':=s.gens) (d':=s.drawn) (ch:=ch) (λb hb=>⟨(hf b hb).2.2.2.1,(hf b hb).2.1,(hf b hb).2.2.2.2.1,(hf b hb).2.2.2.2.2⟩) (λb o _ _ hc e _=>k b o hc e) (λb o _ _ hc e _=>⟨o.slots,k b o hc e⟩)
  (λ_ _ _ _ n=>n) (λb o hc e=>⟨o,k b o hc e⟩) (λ_ _ e=>e) (λ_ _ _ e=>e) (λb ps e=>⟨#[],by rw[e];simp⟩) (λm hm=>?_) (λb u e=>?_) I.bare
 ·obtain⟨o,es,ep,ho,r⟩:=hm;exact⟨o,es,ep,k _ o (λz=>(hf _ z).2.1 rfl) ho,r⟩
 ·refine(I.hok b u e).stay (λc v hc q=>k c v ?_ q) (λ_ q=>q) λ_ _ q=>q;rcases hc with z|z
  ·rw[z];exact nit b u e
  ·exact nit c _ z
theorem j7.turnedNew {t':Nat}{ch:List Addr}{T:Addr}{ob:HO}(I:j7 X pins σ H s)(k:∀ b o,b∉ch->s.heap.get? b=some o->h'.get? b=some o)(hf:∀ b∈ch,bL X pins H b)(hT:s.heap.objs.size<=T)
  (new:y3 X.prog X.w (i8 H T ob) h' T ob):j7 X pins σ (i8 H T ob) { s with heap:=h',toks:=t' }:=by
 have hn:H T=none:=I.hok.fresh hT;have nit:∀ b u,H b=some u->b∉ch:=λb u e z=>by
  have q:=(hf b z).1;rw[q]at e;cases e
 refine I.step (g':=s.gens) (d':=s.drawn) (ch:=ch) (λb hb=>⟨(hf b hb).2.2.2.1,(hf b hb).2.1,(hf b hb).2.2.2.2.1,(hf b hb).2.2.2.2.2⟩) (λb o _ _ hc e _=>k b o hc e) (λb o _ _ hc e _=>⟨o.slots,k b o hc e⟩)
  (λb o _ e n=>?_) (λb o hc e=>⟨o,k b o hc e⟩) (λb xs e=>?_) (λb o u e=>?_) (λb ps e=>⟨#[],?_⟩) (λm hm=>?_) (λb u e=>?_) I.bare
 ·rw[i0 (Nat.ne_of_lt (Nat.lt_of_lt_of_le (Heap.lt_size e) hT))];exact n
 ·rw[i0 (j3 e hn)];exact e
 ·rw[i0 (j3 e hn)];exact e
 ·rw[i0 (j3 e hn),e];simp
 ·obtain⟨o,es,ep,ho,r⟩:=hm;exact⟨o,es,ep,k _ o (λz=>(hf _ z).2.1 rfl) ho,r⟩
 ·by_cases hb:b=T
  ·subst hb;rw[c9]at e;cases e;exact new
  ·rw[i0 hb]at e;refine(I.hok b u e).stay (λc v hc q=>k c v ?_ q) (λc q=>by rw[i0 (j3 q hn)];exact q) λc xs q=>by rw[i0 (j3 q hn)];exact q
   rcases hc with z|z
   ·rw[z];exact nit b u e
   ·exact nit c _ z
end
section
variable {X:Cx}
theorem wN {tg:Expr}{pins:List (Addr×Obj)}{σ:St}{H:Hp}{s:Shared}{R:It->Hp->Prop}{J:It}{tn:Nat->Heap->Prop}{tk:Nat}(I:j7 X pins σ H s)(o:Obj)
  (T:uQ X.prog X.w X.K tg J [s.heap.objs.size] s.heap.objs.size tn) (st:tn 0 (s.heap.push o)) (q:R J H):Ho X pins σ tg R (.ref s.heap.objs.size) { s with heap:=s.heap.push o,toks:=tk }:=by
 refine⟨s.heap.objs.size,[s.heap.objs.size],tn,J,H,rfl,I.kept λb ob e=>Heap.get?_push_of_some _ e,T,st,λb hb=>?_,q⟩;have e:b=s.heap.objs.size:=by simpa using hb
 subst e;exact I.fpOk (Nat.le_refl _) (I.hok.fresh (Nat.le_refl _))
end
def Bq (x:Str):It:=⟨λi _=>i<x.cps.size,λi H v H'=>H'=H/\∃ c,x.cps[i]?=some c/\v=.str ⟨#[c]⟩,λi _=>x.cps.size<=i⟩
theorem nj {P:Program}{w:World}{K:W.Frag}{tg:Expr}(it:Addr)(x:Str)(t:Tok)(ty:String)(hty:ty="str_ascii_iterator"\/ty="str_iterator") :
  uQ P w K tg (Bq x) [it] it (λi h=>h.IsStrIter it ty x t i) where
 mem:=by simp
 obj:=λi h st b hb=>by
  have e:b=it:=by simpa using hb
  subst e;obtain⟨o,e,c,d⟩:=st;exact⟨o,e,λv z=>by rw[d]at z;cases z⟩
 keep:=λi h h' st k=>let⟨o,ho,r⟩:=st;⟨o,k it (by simp) o ho,r⟩
 item:=by
  intro X hP hw hK hc i pins s σ H E I hf st hg;subst hP hw hK;obtain⟨f0,f1,f2,f3,f4,f5⟩:=hf it (by simp);have W:Walks X.prog X.w X.A it [it] [it] x.cps.size (SignAt x) (λi h=>h.IsStrIter it ty x t i):=by
   rcases hty with e|e
   ·rw[e];exact Walks.strAscii (I.ok.hd hc) it x t
   ·rw[e];exact Walks.strWide (I.ok.hd hc) it x t
  have hno:["enumerate","zip","dict_itemiterator","dict_reverseitemiterator","odict_iterator","itertools.zip_longest","itertools.pairwise"].contains ty=false:=by
   rcases hty with e|e
   ·rw[e];decide
   ·rw[e];decide
  refine W.item i s _ _ hg st λv h' tk hv st' kk=>?_;obtain⟨c,u,hcx,rfl⟩:=hv;have I1:j7 X pins σ H { s with heap:=h',toks:=tk }:=I.turned (λb o hb e=>kk b o (by simpa using hb) e) f0 f1 f3 f4 f5;obtain⟨oi,e,cc,dd⟩:=id st';exact⟨_,rfl,xY (s:={ s with heap:=h',toks:=tk }) e cc dd hno ⟨.str ⟨#[c]⟩,H,I1,⟨u,rfl⟩,⟨rfl,c,hcx,rfl⟩,st',λb hb=>(hf b hb).1⟩⟩
 done:=by
  intro X hP hw hK hc i pins s σ H E I hf st hg;subst hP hw hK;obtain⟨f0,f1,f2,f3,f4,f5⟩:=hf it (by simp);have hx:x.cps[i]?=none:=Array.getElem?_eq_none hg;rcases hty with e|e
  ·rw[e]at st;exact wpAny_pyNext_ascii_end (I.ok.hd hc) st hx λh' eb=>⟨rfl,I.turned (t':=s.toks) (λb o hb e=>eb b o hb e) f0 f1 f3 f4 f5⟩
  ·rw[e]at st;exact wpAny_pyNext_wide_end (I.ok.hd hc) st hx λh' eb=>⟨rfl,I.turned (t':=s.toks) (λb o hb e=>eb b o hb e) f0 f1 f3 f4 f5⟩
 self:=λA i s Q E st h=>by
  rcases hty with e|e
  ·rw[e]at st;exact wpAny_pyIter_striter_ascii st h
  ·rw[e]at st;exact wpAny_pyIter_striter_wide st h
def GJ (te:TE):TI:=λσ H R=>te σ H λv H1=>∃ x,v=.str x/\R (Bq x) H1
theorem qk {X:Cx}{tg e:Expr}{te:TE}(he:PE X e te):PI X tg e (GJ te):=by
 intro pins s σ H R I h;refine B9 (he pins s σ H _ I h) λv s1 ⟨y,H1,I1,r1,x,ex,q⟩=>?_;subst ex;obtain⟨t,rfl⟩:=r1;cases ha:x.cps.all (·<128)
 ·exact wpAny_pyIter_wide ha (wN (tk:=s1.toks) I1 _ (nj _ x t "str_iterator" (.inr rfl)) ⟨_,Heap.get?_push_size _ rfl,rfl,rfl⟩ q)
 ·exact wpAny_pyIter_ascii ha (wN (tk:=s1.toks) I1 _ (nj _ x t "str_ascii_iterator" (.inl rfl)) ⟨_,Heap.get?_push_size _ rfl,rfl,rfl⟩ q)
theorem kP:bootBuiltins "zip"=some (.type "zip"):=by decide +kernel
def Bp (K:W.Frag)(a b:Addr):It :=
 ⟨λi H=>∃ (xs ys:List V) (x y:V),C9 K H a xs/\C9 K H b ys/\xs[i]?=some x/\ys[i]?=some y,
  λi H v H'=>∃ T x y,v=.ref T/\H T=none/\H'=i8 H T (.tup [x,y])/\(∀ xs,C9 K H a xs->xs[i]?=some x)/\∀ ys,C9 K H b ys->ys[i]?=some y,
  λi H=>∃ xs ys:List V,C9 K H a xs/\C9 K H b ys/\(xs.length<=i\/ys.length<=i)⟩
theorem vE {P:Program}{w:World}{K:W.Frag}{elts:List Expr}{kk:Nat}{tpos:Pos}{a b z TI TO i1 i2:Addr}(D:ZipApart z TI TO i1 i2 a b) :
  uQ P w K (.Tuple elts kk tpos) (Bp K a b) [z,TI,TO,i1,i2] z (λi h=>IsZip h z TI TO .none/\IsPair h TI (.ref i1) (.ref i2)/\(∃ x y,IsPair h TO x y)/\h.IsListIter i1 a i/\h.IsListIter i2 b i) where
 mem:=by simp
 obj:=λi h st c hc=>by
  obtain⟨hz,hTI,⟨x,y,hTO⟩,⟨o1,e1,_,d1⟩,⟨o2,e2,_,d2⟩⟩:=st;have e':c=z\/c=TI\/c=TO\/c=i1\/c=i2:=by simpa using hc
  rcases e' with q|q|q|q|q
  ·rw[q];exact⟨_,hz,λv q=>nomatch q⟩
  ·rw[q];exact⟨_,hTI,λv q=>nomatch q⟩
  ·rw[q];exact⟨_,hTO,λv q=>nomatch q⟩
  ·rw[q];exact⟨o1,e1,λv q=>by rw[d1]at q;cases q⟩
  ·rw[q];exact⟨o2,e2,λv q=>by rw[d2]at q;cases q⟩
 keep:=λi h h' st k=>by
  obtain⟨hz,hTI,⟨x,y,hTO⟩,h1,h2⟩:=st;exact⟨k z (by simp) _ hz,k TI (by simp) _ hTI,⟨x,y,k TO (by simp) _ hTO⟩,h1.at λo q=>k i1 (by simp) o q,h2.at λo q=>k i2 (by simp) o q⟩
 item:=by
  intro X hP hw hK hc i pins s σ H E I hf st hg;subst hP hw hK;obtain⟨hz,hTI,⟨x0,y0,hTO⟩,h1,h2⟩:=st;obtain⟨xs,ys,x,y,hqx,hqy,hx,hy⟩:=hg;obtain⟨its,rv,p,_⟩:=I.list hqx;obtain⟨its2,rv2,p2,_⟩:=I.list hqy;obtain⟨u,hu,ru⟩:=rv.get hx;obtain⟨u2,hu2,ru2⟩:=rv2.get hy;have hzl:z<s.heap.objs.size:=Heap.lt_size hz;refine wpAny_pyNext_zip_item D hz hTI hTO h1 h2 p.isList p2.isList (x:=u) (y:=u2) (by simpa using hu) (by simpa using hu2) λh' z' TO' h1' h2' hT hsz hk=>?_;refine⟨_,rfl,wpAny_letOwnedTupleGo_zip (s:={ s with heap:=h' }) z' λh'' z'' sb=>?_⟩;have hT2:h''.get? s.heap.objs.size=some { cls:=.type "tuple",data:=.seq #[u,u2] }:=(sb.2 _ (Nat.ne_of_gt hzl)).trans hT;have new:y3 X.prog X.w (i8 H s.heap.objs.size (.tup [x,y])) h'' s.heap.objs.size (.tup [x,y]) :=
   ⟨by show 2<=sizeLine;decide,[u,u2],.cons ru (.cons ru2 .nil),⟨_,hT2,rfl,_,rfl⟩⟩
  have I1:j7 X pins σ (i8 H s.heap.objs.size (.tup [x,y])) { s with heap:=h'' } :=
   I.turnedNew (t':=s.toks) (ch:=[z,TI,TO,i1,i2]) (λc o hb q=>(sb.2 c (λq'=>hb (by simp[q']))).trans (hk c o (λq'=>hb (by simp[q'])) (λq'=>hb (by simp[q'])) (λq'=>hb (by simp[q'])) (λq'=>hb (by simp[q'])) q)) hf (Nat.le_refl _) new
  refine⟨.ref s.heap.objs.size,_,I1,rfl,⟨_,x,y,rfl,I.hok.fresh (Nat.le_refl _),rfl,λl hl=>by rw[I.list_inj hl hqx];exact hx,λl hl=>by rw[I.list_inj hl hqy];exact hy⟩,⟨z'',?_,⟨u,u2,?_⟩,?_,?_⟩,λc hcm=>?_⟩
  ·exact(sb.2 _ D.TIz).trans (hk _ _ D.TIz D.TITO D.TIi1 D.TIi2 hTI)
  ·exact(sb.2 _ D.TOz).trans TO'
  ·exact h1'.at λo q=>(sb.2 _ D.i1z).trans q
  ·exact h2'.at λo q=>(sb.2 _ D.i2z).trans q
  ·have hlt:c<s.heap.objs.size:=by
    have e':c=z\/c=TI\/c=TO\/c=i1\/c=i2:=by simpa using hcm
    rcases e' with q|q|q|q|q
    ·rw[q];exact hzl
    ·rw[q];exact Heap.lt_size hTI
    ·rw[q];exact Heap.lt_size hTO
    ·rw[q];obtain⟨_,e1,_⟩:=h1;exact Heap.lt_size e1
    ·rw[q];obtain⟨_,e2,_⟩:=h2;exact Heap.lt_size e2
   rw[i0 (Nat.ne_of_lt hlt)];exact(hf c hcm).1
 done:=by
  intro X hP hw hK hc i pins s σ H E I hf st hg;subst hP hw hK;obtain⟨hz,hTI,⟨x0,y0,hTO⟩,h1,h2⟩:=st;obtain⟨xs,ys,hqx,hqy,hend⟩:=hg;obtain⟨its,rv,p,_⟩:=I.list hqx;obtain⟨its2,rv2,p2,_⟩:=I.list hqy;have l1:=rv.length;have l2:=rv2.length;have he:its.toArray[i]?=none\/its2.toArray[i]?=none:=by
   rcases hend with q|q
   ·exact .inl (by simp;omega)
   ·exact .inr (by simp;omega)
  exact wpAny_pyNext_zip_end (I.ok.hd hc) D hz hTI hTO h1 h2 p.isList p2.isList he λh' hk=>⟨rfl,I.turnedL (t':=s.toks) (ch:=[z,TI,TO,i1,i2]) (λc o hb q =>
   hk c o (λq'=>hb (by simp[q'])) (λq'=>hb (by simp[q'])) (λq'=>hb (by simp[q'])) (λq'=>hb (by simp[q'])) q) hf⟩
 self:=λA i s Q E st h=>wpAny_pyIter_zip st.1 h
def GG (K:W.Frag)(ta:TA):TI:=λσ H R=>ta σ H λvs H1=>∃ a b xs ys,vs=[.ref a,.ref b]/\C9 K H1 a xs/\C9 K H1 b ys/\R (Bp K a b) H1
theorem qj {X:Cx}{e e2:Expr}{ta:TA}{p pos tpos:Pos}{elts:List Expr}{kk:Nat}(hg:Gl X "zip")(hm:X.mg "zip"=none)(ha:PA X [e,e2] ta)
  (hs:starEach [e,e2] X.env=(false,eval e X.env)::starEach [e2] X.env:=by rfl) (hpl:(backTo pos (starEach [e2] X.env)).any (·.1)=false:=by rfl) :
  PI X (.Tuple elts kk tpos) (.Call (.Name "zip" p) [e,e2] [] pos) (GG X.K ta):=by
 intro pins s σ H R I h;refine Call_ (jl I hg hm kP (PyProof.Rows.callWith_type1 (B9 (ha pos pins s σ H _ I h) λus s1 ⟨vs,H1,I1,r1,q1⟩=>?_) hs hpl));obtain⟨a,b,xs,ys,ex,hqx,hqy,q⟩:=q1;subst ex;cases r1 with
 |cons r rr =>
  cases rr with
  |cons r' rr =>
   cases rr;cases r;cases r';obtain⟨its,rv,p1,_⟩:=I1.list hqx;obtain⟨its2,rv2,p2,_⟩:=I1.list hqy;have la:a<s1.heap.objs.size:=p1.lt;have lb:b<s1.heap.objs.size:=p2.lt;refine call_zip_2 p1.isList p2.isList λh' hz hTI hTO h1 h2 hsz hk=>wpAny_pyIter_zip hz ?_;have I2:j7 X pins σ H1 { s1 with heap:=h' }:=I1.kept (t':=s1.toks) hk;refine⟨s1.heap.objs.size+4,[s1.heap.objs.size+4,s1.heap.objs.size+2,s1.heap.objs.size+3,s1.heap.objs.size,s1.heap.objs.size+1],_,_,H1,rfl,I2,vE (W.ktu_apart s1.heap.objs.size a b la lb),⟨hz,hTI,⟨_,_,hTO⟩,h1,h2⟩,λc hcm=>?_,q⟩;have e':c=s1.heap.objs.size+4\/c=s1.heap.objs.size+2\/c=s1.heap.objs.size+3\/c=s1.heap.objs.size\/c=s1.heap.objs.size+1:=by simpa using hcm
   have hle:s1.heap.objs.size<=c:=by
    rcases e' with z|z|z|z|z
    ·rw[z];exact Nat.le_add_right _ _
    ·rw[z];exact Nat.le_add_right _ _
    ·rw[z];exact Nat.le_add_right _ _
    ·rw[z];exact Nat.le_refl _
    ·rw[z];exact Nat.le_add_right _ _
   exact I1.fpOk hle (I1.hok.fresh hle)
end L2
section 
namespace Bits
open PySem PyProof.Rows
end Bits
end 
section 
namespace TL
open PySem PySem.Builtin PySem.Builtin.Str PySem.StrLaws
abbrev tl (x:Str):List Nat:=x.cps.toList
theorem qx (x:Str):x.length=(tl x).length:=by simp[tl,Str.length]
theorem Ej {x y:Str}(h:tl x=tl y):x=y:=Str.ext' (Array.toList_inj.mp h)
theorem Z0 (x y:Str):tl (x++y)=tl x++tl y:=by
 show(x++y).cps.toList=_;rw[Str.cps_append,Array.toList_append]
theorem gk (s:String):tl (Str.ofString s)=s.toList.map Char.toNat:=PyProof.Rows.signs_ofString s
def kF (S:List Nat):List (List Nat)->List Nat
 |[]=>[]
 |[p]=>p
 |p::q::r=>p++(S++kF S (q::r))
theorem ra (y:Str):∀ parts:List Str,tl (Str.join y parts)=kF (tl y) (parts.map tl)
 |[]=>rfl
 |[_]=>rfl
 |x::z::r=>by
  show tl (x++y++Str.join y (z::r))=tl x++(tl y++kF (tl y) ((z::r).map tl));rw[Z0,Z0,ra y (z::r),List.append_assoc]
theorem Aa (y:Str)(parts:List Str):Txt.join y parts=Str.join y parts:=glued_eq_join y parts
def FA (n:Nat):List Nat:=(Nat.toDigits 10 n).map Char.toNat
theorem pO (n:Nat):tl (Str.ofString (toString ((n:Nat):Int)))=FA n:=W.KIN.signs_num n
theorem xo {n k:Nat}(hk:0<k)(h:n<10^k):(FA n).length<=k:=by
 have z:=PyProof.Rows.toString_length_le (v:=(n:Int)) (by omega) hk (by
  have e:((10:Int)^k)=((10^k:Nat):Int):=by
   first
    |exact(Int.natCast_pow 10 k).symm
    |simp
  rw[e];first|exact Int.ofNat_lt.mpr h|omega)
 rw[qx,pO]at z;exact z
end TL
end 
namespace L2
open PySem PySem.Spec PyProof.Rows
theorem aD:∀ {ys:List Str}{us:List Value},x9 (ys.map V.str) us->StrsAre us ys
 |[],_,.nil=>.nil
 |y::ys,_,.cons r t=>by
  obtain⟨k,rfl⟩:=r;exact .cons y k (aD t)
section
variable {X:Cx}
theorem zR:EJ X "str.join" (λx xs H Q=>∃ a p,∃ ys:List Str,x=.str a/\xs=[.ref p]/\(C9 X.K H p (ys.map V.str)\/W2 X.K H p (ys.map V.str)) /\
  (ys.map (·.length)).sum+ys.length*a.length<=16777216/\Q (.str (Txt.join a ys)) H):=by
 intro pins s σ H x xs v us Q I rx rs h;obtain⟨a,p,ys,rfl,rfl,hp,hz,h⟩:=h;obtain⟨t,rfl⟩:=rx;cases rs with
 |cons r1 rs =>
  cases rs;cases r1;rcases hp with hp|hp
  ·obtain⟨its,r,⟨o,n,ho,hc,_,hd⟩,_⟩:=I.list hp;exact PyProof.Rows.join_list (items:=its.toArray) ⟨o,ho,hc,n,hd⟩ (by rw[List.toList_toArray];exact aD r) hz λt' k=>⟨.str _,H,I.tok k,⟨t',rfl⟩,h⟩
  ·obtain⟨its,r,ht,_⟩:=I.tuple hp;exact PyProof.Rows.join_tuple (items:=its.toArray) ht (by rw[List.toList_toArray];exact aD r) hz λt' k=>⟨.str _,H,I.tok k,⟨t',rfl⟩,h⟩
end
section
variable {X:Cx}{o e:Expr}{to te:TE}
def Hf (r:V->List V->Hp->VK->Prop)(to te:TE):TE:=λσ H Q=>to σ H λx H1=>(∃ a,x=.str a)/\te σ H1 λy H2=>r x [y] H2 Q
theorem Fm {id:String}{name:Str}{apos pos:Pos}{r:V->List V->Hp->VK->Prop}(slot:Slot "str" name id)(ty:typeOf (.builtin id)=pure (.type "method_descriptor"))(rule:EJ X id r)(ho:PE X o to)(he:PE X e te)
  (hs:starEach [e] X.env=[(false,eval e X.env)]:=by rfl) (hbase:attributeBase o name X.env (eval o X.env)=eval o X.env:=by rfl) (hline:(apos.endLine==pos.line)=true:=by rfl) :
  PE X (.Call (.Attribute o name apos) [e] [] pos) (Hf r to te):=by
 intro pins s σ H Q I h;refine PySem.Call_method1 hbase hs hline (B9 (ho pins s σ H _ I h) λv s1 ⟨x,H1,I1,r1,q1⟩=>?_);obtain⟨⟨a,rfl⟩,q1⟩:=q1;obtain⟨t,rfl⟩:=_root_.id r1;refine⟨"str",_,F.plainAttrs_str,slot,ty,typeIs_str _ _ _,(λ_ e=>nomatch e),Calls.callWith_builtin rfl (Calls.evalArgs_plain (Calls.spliced_cons ?_))⟩;exact B9 (he pins s1 σ H1 _ I1 q1) λu s2 ⟨y,H2,I2,r2,q2⟩=>Calls.spliced_nil (rule pins s2 σ H2 _ [y] _ [u] Q I2 r1 (.cons r2 .nil) q2)
theorem zk {apos pos:Pos}(ho:PE X o to)(he:PE X e te)(hs:starEach [e] X.env=[(false,eval e X.env)]:=by rfl)(hbase:attributeBase o "join" X.env (eval o X.env)=eval o X.env:=by rfl)(hline:(apos.endLine==pos.line)=true:=by rfl) :
  PE X (.Call (.Attribute o "join" apos) [e] [] pos) (Hf (λx xs H Q=>∃ a p,∃ ys:List Str,x=.str a/\xs=[.ref p]/\(C9 X.K H p (ys.map V.str)\/W2 X.K H p (ys.map V.str)) /\
   (ys.map (·.length)).sum+ys.length*a.length<=16777216/\Q (.str (Txt.join a ys)) H) to te) :=
 Fm F.slot_str_join F.type_str_join zR ho he hs hbase hline
end
def N4 (s:Stmt)(j:Nat):Stmt:=match s with
 |.ClassDef _ _ _ body _ _ _ _ _ _ _=>body.getD j (.Pass ⟨0,0,0,0⟩)
 |_=>.Pass ⟨0,0,0,0⟩
def L8 (s:Stmt):Arguments:=match s with
 |.FunctionDef _ a _ _ _ _ _ _ _ _=>a
 |_=>{ posonlyargs:=[],args:=[],vararg:=none,kwonlyargs:=[],kw_defaults:=[],kwarg:=none,defaults:=[] }
def F5 (s:Stmt):List Stmt:=match s with
 |.FunctionDef _ _ b _ _ _ _ _ _ _=>b
 |_=>[]
def d8 (s:Stmt):Scope:=match s with
 |.FunctionDef _ _ _ _ _ _ sc _ _ _=>sc
 |_=>{ kind:=.function,names:=[],isGenerator:=false,isCoroutine:=false }
structure F1 (K:W.Frag)(x qual:Str)(st:Stmt)(f:Addr)(fd:FuncData):Prop where
 ex:∃ (oc:Value) (od:Option Addr) (kV doc pm:Value) (an:Option Addr) (cdv ct:Value) (osl:Array (Option Value)),
  fd=W.fnOf x qual (L8 st) (F5 st) (d8 st) .none kV doc pm an cdv ct/\K.lookup f=some ⟨oc,od,.func fd,osl⟩/\W.codeIn K cdv qual=true
 kp:W.keepIn K (.ref f)=true
section
variable {P:Program}{w:World}{K:W.Frag}{mg:Str->Option Value}{base:Heap}
theorem F1.binds {x qual:Str}{st:Stmt}{f:Addr}{fd:FuncData}{ps:List Str}(F:F1 K x qual st f fd)
  (h:∀ (kV doc pm:Value) (an:Option Addr) (cdv ct:Value) (us:List Value),us.length=ps.length->bindArgs (W.fnOf x qual (L8 st) (F5 st) (d8 st) .none kV doc pm an cdv ct) ⟨us,[]⟩=pure (ps.zip us)):V1 K fd ps []:=by
 obtain⟨oc,od,kV,doc,pm,an,cdv,ct,osl,rfl,lk,hcd⟩:=F.ex;exact .all (h kV doc pm an cdv ct)
theorem qD {x qual:Str}{st:Stmt}{f:Addr}{oc:Value}{od an:Option Addr}{osl:Array (Option Value)}{kV doc pm cdv ct:Value}(l:K.lookup f=some ⟨oc,od,.func (W.fnOf x qual (L8 st) (F5 st) (d8 st) .none kV doc pm an cdv ct),osl⟩)
  (c:W.codeIn K cdv qual=true) (k:W.keepIn K (.ref f)=true):F1 K x qual st f (W.fnOf x qual (L8 st) (F5 st) (d8 st) .none kV doc pm an cdv ct):=⟨⟨oc,od,kV,doc,pm,an,cdv,ct,osl,rfl,l,c⟩,k⟩
end
theorem sA {A:Around}{k:Nat}(hr:F9 k A):A.units+1<cLine:=Nat.lt_of_le_of_lt (Nat.add_le_add_left (by decide:1<=64) _) hr.units
section
variable {X:Cx}
theorem pv (i:Nat){x:Str}{pos:Pos}(hN:X.N[i]?=some x:=by rfl)(hv:Ex X.env.scope x:=by first|exact Or.inl rfl|exact Or.inr (Or.inl rfl)|exact Or.inr (Or.inr rfl))(hd:(x==("__debug__" : Str))=false:=by decide)
  (hcd:(x==("__classdict__" : Str))=false:=by decide):PE X (.Name x pos) (J6 i):=wO hN hv hd hcd
end
theorem fW {A B:Prop}(h:B):if false=true then A else B:=by
 rw[if_neg Bool.false_ne_true];exact h
theorem eV {A B:Prop}(h:A):if true=true then A else B:=by
 rw[if_pos rfl];exact h
def l7 (H H':Hp):Prop:=∀ b o,H b=some o->H' b=some o
theorem l7.refl (H:Hp):l7 H H:=λ_ _ h=>h
theorem l7.trans {H H1 H2:Hp}(a:l7 H H1)(b:l7 H1 H2):l7 H H2:=λc o h=>b c o (a c o h)
theorem l7.free {H H':Hp}(e:l7 H H'){l:Addr}(h:H' l=Option.none):H l=Option.none:=by
 cases q:H l with
 |none=>rfl
 |some o =>
  rw[e l o q]at h;cases h
theorem l7.seq {K:W.Frag}{H H':Hp}{a:Addr}{xs:List V}(e:l7 H H')(h:C9 K H a xs):C9 K H' a xs:=by
 rcases h with(h|⟨o,h⟩)|h
 ·exact .inl (.inl (e _ _ h))
 ·exact .inl (.inr ⟨o,e _ _ h⟩)
 ·exact .inr h
theorem bH {xs:List V}{z:Int}{j:Nat}{v:V}(e:z=(j:Int))(h:xs[j]?=some v):uU xs z=some v:=by
 rw[e];exact mH h
end L2
set_option maxHeartbeats 4000000
namespace L2
open PySem PySem.Spec PyProof.Rows
open PySem.W (WData Codec OpenSpec Well WellAll ReadsW ReadsAllW)
mutual
/-- x stands for the datum d,lists and tuples all the way -/
inductive Dw (K:W.Frag)(H:Hp):V->WData->Prop
 |non:Dw K H .non .none
 |bl (b:Bool):Dw K H (.bl b) (.bool b)
 |int (i:Int):Dw K H (.int i) (.int i)
 |str (x:Str):Dw K H (.str x) (.str x)
 |byt (b:Array UInt8):Dw K H (.byt b) (.bytes b.toList)
 |lst {a:Addr}{xs:List V}{ds:List WData}:C9 K H a xs->DwAll K H xs ds->Dw K H (.ref a) (.list ds)
 |tup {a:Addr}{xs:List V}{ds:List WData}:W2 K H a xs->DwAll K H xs ds->Dw K H (.ref a) (.tuple ds)
inductive DwAll (K:W.Frag)(H:Hp):List V->List WData->Prop
 |nil:DwAll K H [] []
 |cons {v:V}{vs:List V}{d:WData}{ds:List WData}:Dw K H v d->DwAll K H vs ds->DwAll K H (v::vs) (d::ds)
end
theorem sJ {K:W.Frag}{H:Hp}:∀ ns:List Int,DwAll K H (ns.map V.int) (ns.map WData.int)
 |[]=>.nil
 |n::r=>.cons (.int n) (sJ r)
theorem su {K:W.Frag}{H:Hp}:∀ (ns:List Int) (xs:List V),DwAll K H xs (ns.map WData.int)->xs=ns.map V.int
 |[],xs,h=>by
  cases h;rfl
 |n::r,xs,h=>by
  cases h with
  |cons h1 h2 =>
   cases h1;rw[su r _ h2]<;>rfl
section
variable {P:Program}{w:World}{K:W.Frag}{H:Hp}{h:Heap}{R:W.WRecords}{cl:Str->Option Addr}
theorem BH {a:Addr}{xs:List V}(hok:ay P w H h)(KX:K.In h)(q:C9 K H a xs):∃ (its:List Value) (o:Obj) (n:Nat),x9 xs its/\h.get? a=some o/\o.cls=.type "list"/\o.data=.seq its.toArray n:=by
 rcases q with q|⟨o,its,n,e,hc,_,hd,_,hv⟩
 ·obtain⟨_,its,n,hv,e⟩:=(show y3 P w H h a (.lst xs) from q.ok hok);exact⟨its,_,n,hv,e,rfl,rfl⟩
 ·exact⟨its.toList,o,n,hv,KX _ _ e,hc,by simp[hd]⟩
theorem BG {a:Addr}{xs:List V}(hok:ay P w H h)(KX:K.In h)(q:W2 K H a xs):∃ (its:List Value) (o:Obj) (n:Nat),x9 xs its/\h.get? a=some o/\o.cls=.type "tuple"/\o.data=.seq its.toArray n:=by
 rcases q with q|⟨o,its,n,e,hc,hd,_,hv⟩
 ·obtain⟨_,its,hv,o,e,hc,n,hd⟩:=(show y3 P w H h a (.tup xs) from q.ok hok);exact⟨its,o,n,hv,e,hc,hd⟩
 ·exact⟨its.toList,o,n,hv,KX _ _ e,hc,by simp[hd]⟩
mutual
theorem Dw.reads (hok:ay P w H h)(KX:K.In h):∀ (d:WData) (v:V) (u:Value),Dw K H v d->A0 v u->∃ as,ReadsW R cl h u d as
 |.none,_,_,x,r=>by
  cases x;cases r;exact⟨_,ReadsW.none⟩
 |.bool b,_,_,x,r=>by
  cases x;cases r;exact⟨_,ReadsW.bool b⟩
 |.int i,_,_,x,r=>by
  cases x;obtain⟨t,rfl⟩:=r;exact⟨_,ReadsW.int i t⟩
 |.str s,_,_,x,r=>by
  cases x;obtain⟨t,rfl⟩:=r;exact⟨_,ReadsW.str s t⟩
 |.bytes b,_,_,x,r=>by
  cases x;obtain⟨t,rfl⟩:=r;exact⟨_,ReadsW.bytes _ t⟩
 |.list ds,_,_,x,r=>by
  cases x with
  |lst hs ha =>
   cases r;obtain⟨its,o,n,rv,ho,hc,hd⟩:=BH hok KX hs;obtain⟨as,hr⟩:=Dw.readsAll hok KX ds _ its ha rv;exact⟨_,ReadsW.list ho hc hd hr⟩
 |.tuple ds,_,_,x,r=>by
  cases x with
  |tup hs ha =>
   cases r;obtain⟨its,o,n,rv,ho,hc,hd⟩:=BG hok KX hs;obtain⟨as,hr⟩:=Dw.readsAll hok KX ds _ its ha rv;exact⟨_,ReadsW.tuple ho hc hd hr⟩
 |.float _,_,_,x,_=>by cases x
 |.dict _,_,_,x,_=>by cases x
 |.bytearray _,_,_,x,_=>by cases x
 |.set _,_,_,x,_=>by cases x
 |.frozenset _,_,_,x,_=>by cases x
 |.obj _ _,_,_,x,_=>by cases x
theorem Dw.readsAll (hok:ay P w H h)(KX:K.In h):∀ (ds:List WData) (vs:List V) (us:List Value),DwAll K H vs ds->x9 vs us->∃ as,ReadsAllW R cl h us ds as
 |[],_,_,x,r=>by
  cases x;cases r;exact⟨_,ReadsAllW.nil⟩
 |d::ds,_,_,x,r=>by
  cases x with
  |cons h1 h2 =>
   cases r with
   |cons r1 r2 =>
    obtain⟨as,q1⟩:=Dw.reads hok KX d _ _ h1 r1;obtain⟨bs,q2⟩:=Dw.readsAll hok KX ds _ _ h2 r2;exact⟨_,ReadsAllW.cons q1 q2⟩
end
end
mutual
/-- data that a codec tells -/
def rO:WData->Bool
 |.none=>true
 |.bool _=>true
 |.int _=>true
 |.str _=>true
 |.bytes _=>true
 |.list xs=>plWs xs
 |.tuple xs=>plWs xs
 |_=>false
def plWs:List WData->Bool
 |[]=>true
 |x::r=>rO x&&plWs r
end
theorem nI {α:Type}{f:α->WData}(h:∀ a,rO (f a)=true):∀ l:List α,plWs (l.map f)=true
 |[]=>rfl
 |x::r=>by
  show(rO (f x)&&plWs (r.map f))=true;rw[h x,nI h r]<;>rfl
theorem cu:∀ (c:Codec) (a:c.denote),rO (c.enc a)=true
 |.unit,_=>rfl
 |.bool,_=>rfl
 |.int _ _,_=>rfl
 |.nat _ _,_=>rfl
 |.u8,_=>rfl
 |.bytes _ _,_=>rfl
 |.text _ _ _ _,_=>rfl
 |.list _ _ c,a=>nI (λx=>cu c x) a
 |.pair c d,a=>by
  show(rO (c.enc a.1)&&(rO (d.enc a.2)&&true))=true;rw[cu c a.1,cu d a.2]<;>rfl
 |.triple c d e,a=>by
  show(rO (c.enc a.1)&&(rO (d.enc a.2.1)&&(rO (e.enc a.2.2)&&true)))=true;rw[cu c a.1,cu d a.2.1,cu e a.2.2]<;>rfl
 |.option c,none=>rfl
 |.option c,some x=>cu c x
theorem kj:∀ (cs:List Codec) (a:Codec.denoteAll cs),plWs (Codec.encAll cs a)=true
 |[],_=>rfl
 |c::cs,a=>by
  show(rO (c.enc a.1)&&plWs (Codec.encAll cs a.2))=true;rw[cu c a.1,kj cs a.2]<;>rfl
theorem dA:∀ {xs:List WData}{d:WData},d∈xs->d.weight<=WData.weightAll xs
 |[],d,h=>absurd h (by simp)
 |x::r,d,h=>by
  show d.weight<=x.weight+1+WData.weightAll r;rcases List.mem_cons.mp h with e|m
  ·rw[e];omega
  ·have z:=dA m;omega
def mW:Value->V
 |.none=>.non
 |.bool b=>.bl b
 |.int i _=>.int i
 |.str x _=>.str x
 |.bytes b _=>.byt b
 |.ref a=>.ref a
 |_=>.non
def uR (A:List Addr):Value->Prop
 |.none=>True
 |.bool _=>True
 |.int _ _=>True
 |.str _ _=>True
 |.bytes _ _=>True
 |.ref a=>a∈A
 |_=>False
theorem uR.mono {A B:List Addr}(h:∀ a∈A,a∈B):∀ {u:Value},uR A u->uR B u:=λ{u} x=>by
 cases u with
 |ref a=>exact h a x
 |none=>trivial
 |bool b=>trivial
 |int i t=>trivial
 |str s t=>trivial
 |bytes b t=>trivial
 |_=>exact False.elim x
theorem wI {A:List Addr}{u:Value}(x:uR A u):A0 (mW u) u:=by
 cases u with
 |ref a=>rfl
 |none=>rfl
 |bool b=>rfl
 |int i t=>exact⟨t,rfl⟩
 |str s t=>exact⟨t,rfl⟩
 |bytes b t=>exact⟨t,rfl⟩
 |_=>exact False.elim x
theorem Y8 {A:List Addr}:∀ {vs:List Value},(∀ u∈vs,uR A u)->x9 (vs.map mW) vs
 |[],_=>.nil
 |u::r,h=>.cons (wI (h u (List.mem_cons_self ..))) (Y8 λx hx=>h x (List.mem_cons_of_mem _ hx))
def bK (h:Heap)(A:List Addr)(a:Addr):Prop:=∃ vs:List Value,vs.length<=sizeLine/\(∀ u∈vs,uR A u) /\
 (h.get? a=some { cls:=.type "list",data:=.seq vs.toArray }\/h.get? a=some { cls:=.type "tuple",data:=.seq vs.toArray })
theorem bK.mono {h:Heap}{A B:List Addr}{a:Addr}(k:∀ a∈A,a∈B)(x:bK h A a):bK h B a:=by
 obtain⟨vs,h1,h2,h3⟩:=x;exact⟨vs,h1,λu hu=>(h2 u hu).mono k,h3⟩
theorem V4 {P:Params}{h:Heap}:∀ {vs:List Value}{ds:List WData},WellAll P h vs ds->vs.length=ds.length
 |_,_,.nil=>rfl
 |_,_,.cons _ b=>by
  show _+1=_+1;rw[V4 b]
theorem jT {P:Params}{h:Heap}{v:Value}{ds:List WData}(x:Well P h v (.list ds)):∃ (a:Addr) (vs:List Value),v=.ref a/\h.get? a=some { cls:=.type "list",data:=.seq vs.toArray }/\WellAll P h vs ds:=by
 cases x with
 |list ho hall=>exact⟨_,_,rfl,ho,hall⟩
theorem il {P:Params}{h:Heap}{v:Value}{ds:List WData}(x:Well P h v (.tuple ds)):∃ (a:Addr) (vs:List Value),v=.ref a/\h.get? a=some { cls:=.type "tuple",data:=.seq vs.toArray }/\WellAll P h vs ds:=by
 cases x with
 |tuple ho hall=>exact⟨_,_,rfl,ho,hall⟩
theorem jU {P:Params}{h:Heap}{us:List Value}{d:WData}{ds:List WData}(x:WellAll P h us (d::ds)):∃ (v:Value) (vs:List Value),us=v::vs/\Well P h v d/\WellAll P h vs ds:=by
 cases x with
 |cons a b=>exact⟨_,_,rfl,a,b⟩
theorem rY {n:Nat}(h:n<=1048576):n<=sizeLine:=Nat.le_trans h (by decide)
section
variable {P:Params}{h:Heap}
mutual
theorem yq:∀ (d:WData) (v:Value),Well P h v d->rO d=true->d.weight<=1048576->∃ A:List Addr,uR A v/\∀ a∈A,bK h A a
 |.none,_,x,_,_=>by
  cases x;exact⟨[],trivial,λa m=>absurd m (by simp)⟩
 |.bool b,_,x,_,_=>by
  cases x;exact⟨[],trivial,λa m=>absurd m (by simp)⟩
 |.int i,_,x,_,_=>by
  cases x;exact⟨[],trivial,λa m=>absurd m (by simp)⟩
 |.str s,_,x,_,_=>by
  cases x;exact⟨[],trivial,λa m=>absurd m (by simp)⟩
 |.bytes b,_,x,_,_=>by
  cases x;exact⟨[],trivial,λa m=>absurd m (by simp)⟩
 |.list ds,_,x,p,z=>by
  obtain⟨a,vs,rfl,ho,hall⟩:=jT x;have z2:WData.weightAll ds<=1048576:=z;obtain⟨A,h1,h2⟩:=area_all ds _ hall p λd hd=>Nat.le_trans (dA hd) z2;have k:∀ b∈A,b∈a::A:=λb hb=>List.mem_cons_of_mem _ hb;refine⟨a::A,List.mem_cons_self ..,λb hb=>?_⟩;rcases List.mem_cons.mp hb with e|m
  ·rw[e];exact⟨vs,rY (by rw[V4 hall];exact Nat.le_trans (W.length_le_weightAllW ds) z2),λu hu=>(h1 u hu).mono k,.inl ho⟩
  ·exact(h2 b m).mono k
 |.tuple ds,_,x,p,z=>by
  obtain⟨a,vs,rfl,ho,hall⟩:=il x;have z2:WData.weightAll ds<=1048576:=z;obtain⟨A,h1,h2⟩:=area_all ds _ hall p λd hd=>Nat.le_trans (dA hd) z2;have k:∀ b∈A,b∈a::A:=λb hb=>List.mem_cons_of_mem _ hb;refine⟨a::A,List.mem_cons_self ..,λb hb=>?_⟩;rcases List.mem_cons.mp hb with e|m
  ·rw[e];exact⟨vs,rY (by rw[V4 hall];exact Nat.le_trans (W.length_le_weightAllW ds) z2),λu hu=>(h1 u hu).mono k,.inr ho⟩
  ·exact(h2 b m).mono k
 |.float _,_,_,p,_=>Bool.noConfusion (show false=true from p)
 |.dict _,_,_,p,_=>Bool.noConfusion (show false=true from p)
 |.bytearray _,_,_,p,_=>Bool.noConfusion (show false=true from p)
 |.set _,_,_,p,_=>Bool.noConfusion (show false=true from p)
 |.frozenset _,_,_,p,_=>Bool.noConfusion (show false=true from p)
 |.obj _ _,_,_,p,_=>Bool.noConfusion (show false=true from p)
theorem area_all:∀ (ds:List WData) (vs:List Value),WellAll P h vs ds->plWs ds=true->(∀ d∈ds,d.weight<=1048576)->∃ A:List Addr,(∀ u∈vs,uR A u)/\∀ a∈A,bK h A a
 |[],_,x,_,_=>by
  cases x;exact⟨[],λu m=>absurd m (by simp),λa m=>absurd m (by simp)⟩
 |d::ds,_,x,p,z=>by
  obtain⟨v,vs,rfl,x1,x2⟩:=jU x;have q:rO d=true/\plWs ds=true:=Bool.and_eq_true_iff.mp p;obtain⟨A,a1,a2⟩:=yq d v x1 q.1 (z d (List.mem_cons_self ..));obtain⟨B,b1,b2⟩:=area_all ds vs x2 q.2 λe he=>z e (List.mem_cons_of_mem _ he);have kA:∀ b∈A,b∈A++B:=λb hb=>List.mem_append.mpr (.inl hb);have kB:∀ b∈B,b∈A++B:=λb hb=>List.mem_append.mpr (.inr hb);refine⟨A++B,λu hu=>?_,λb hb=>?_⟩
  ·rcases List.mem_cons.mp hu with e|m
   ·rw[e];exact a1.mono kA
   ·exact(b1 u m).mono kB
  ·rcases List.mem_append.mp hb with m|m
   ·exact(a2 b m).mono kA
   ·exact(b2 b m).mono kB
end
end
def Ah (o:Obj):Option HO:=match o.data with
 |.seq vs _=>if(o.cls==Value.type "list")=true then some (.frz o (.lst (vs.toList.map mW)))else some (.frz o (.tup (vs.toList.map mW)))
 |_=>none
def bw (K:W.Frag)(h:Heap)(A:List Addr):Hp:=λb=>if b∈A then(if(K.lookup b).isNone=true then(h.get? b).bind Ah else none)else none
def Bn (H:Hp):Prop:=∀ b,H b=none\/∃ o u,H b=some (.frz o u)
theorem oX (vs:List Value):Ah { cls:=.type "list",data:=.seq vs.toArray }=some (.frz { cls:=.type "list",data:=.seq vs.toArray } (.lst (vs.map mW))):=by
 show(if(Value.type "list"==Value.type "list")=true then some (HO.frz { cls:=.type "list",data:=.seq vs.toArray } (.lst (vs.toArray.toList.map mW)))else some (HO.frz { cls:=.type "list",data:=.seq vs.toArray } (.tup (vs.toArray.toList.map mW))))=_;rw[if_pos (beq_self_eq_true _)]
theorem oW (vs:List Value):Ah { cls:=.type "tuple",data:=.seq vs.toArray }=some (.frz { cls:=.type "tuple",data:=.seq vs.toArray } (.tup (vs.map mW))):=by
 show(if(Value.type "tuple"==Value.type "list")=true then some (HO.frz { cls:=.type "tuple",data:=.seq vs.toArray } (.lst (vs.toArray.toList.map mW)))else some (HO.frz { cls:=.type "tuple",data:=.seq vs.toArray } (.tup (vs.toArray.toList.map mW))))=_;rw[if_neg (by decide)]
section
variable {P:Program}{w:World}{K:W.Frag}{h:Heap}{A:List Addr}
theorem ij {b:Addr}{o:Obj}(hb:b∈A)(hk:K.lookup b=none)(e:h.get? b=some o):bw K h A b=Ah o:=by
 unfold bw;rw[if_pos hb,hk,if_pos (show(none:Option Obj).isNone=true from rfl),e]<;>rfl
theorem zO {b:Addr}{u:HO}(q:bw K h A b=some u):b∈A/\K.lookup b=none:=by
 unfold bw at q;by_cases hb:b∈A
 ·rw[if_pos hb]at q;cases hk:K.lookup b with
  |none=>exact⟨hb,rfl⟩
  |some o =>
   rw[hk,if_neg (by simp)]at q;cases q
 ·rw[if_neg hb]at q;cases q
theorem ig (ar : ∀ a ∈ A, bK h A a) {b : Addr} {u : HO} (q : bw K h A b = some u) : K.lookup b = none ∧ ∃ vs : List Value, vs.length ≤ sizeLine ∧ (∀ u ∈ vs, uR A u) ∧
    ((h.get? b = some { cls := .type "list", data := .seq vs.toArray } ∧ u = .frz { cls := .type "list", data := .seq vs.toArray } (.lst (vs.map mW))) ∨
     (h.get? b = some { cls := .type "tuple", data := .seq vs.toArray } ∧ u = .frz { cls := .type "tuple", data := .seq vs.toArray } (.tup (vs.map mW)))) := by
  obtain⟨hb, hk⟩ := zO q;obtain⟨vs, h1, h2, h3⟩ := ar b hb;refine⟨hk, vs, h1, h2, ?_⟩;rcases h3 with e|e
  · rw[ij hb hk e, oX]at q
    exact .inl ⟨e, (Option.some.inj q).symm⟩
  · rw[ij hb hk e, oW]at q
    exact .inr ⟨e, (Option.some.inj q).symm⟩
theorem uP (ar:∀ a∈A,bK h A a):Bn (bw K h A):=λb=>by
 cases q:bw K h A b with
 |none=>exact .inl rfl
 |some u =>
  obtain⟨_,vs,_,_,⟨_,e⟩|⟨_,e⟩⟩:=ig ar q
  ·exact .inr ⟨_,_,by rw[e]⟩
  ·exact .inr ⟨_,_,by rw[e]⟩
theorem AD (ar:∀ a∈A,bK h A a):ay P w (bw K h A) h:=λb u q=>by
 obtain⟨_,vs,h1,h2,⟨e,rfl⟩|⟨e,rfl⟩⟩:=ig ar q
 ·exact⟨e,by rw[List.length_map];exact h1,vs,_,Y8 h2,e⟩
 ·exact⟨e,by rw[List.length_map];exact h1,vs,Y8 h2,_,e,rfl,_,rfl⟩
theorem ia {c c':Value}{vs us:List Value}(e:(some { cls:=c,data:=.seq vs.toArray }:Option Obj)=some { cls:=c',data:=.seq us.toArray }):c=c'/\vs=us:=by
 have e1:=Option.some.inj e;have e2:c=c':=congrArg Obj.cls e1;have e3:Data.seq vs.toArray=Data.seq us.toArray:=congrArg Obj.data e1;injection e3 with e4;refine⟨e2,?_⟩;have e5:=congrArg Array.toList e4;simpa using e5
theorem GP (KX:K.In h)(ar:∀ a∈A,bK h A a){a:Addr}{vs:List Value}(ha:a∈A)(e:h.get? a=some { cls:=.type "list",data:=.seq vs.toArray }):(∀ u∈vs,uR A u)/\C9 K (bw K h A) a (vs.map mW):=by
 obtain⟨us,h1,h2,h3⟩:=ar a ha;have hu:us=vs:=by
  rcases h3 with q|q
  ·rw[e]at q;exact(ia q).2.symm
  ·rw[e]at q;exact absurd (Value.type.inj (ia q).1) (by decide)
 subst hu;refine⟨h2,?_⟩;cases hk:K.lookup a with
 |none=>exact .inl (.inr ⟨_,by rw[ij ha hk e,oX]⟩)
 |some o =>
  have e2:=KX a o hk;rw[e]at e2;obtain rfl:=Option.some.inj e2;exact .inr ⟨_,us.toArray,_,hk,rfl,rfl,rfl,by rw[List.size_toArray];exact h1,by simpa using Y8 h2⟩
theorem GO (KX:K.In h)(ar:∀ a∈A,bK h A a){a:Addr}{vs:List Value}(ha:a∈A)(e:h.get? a=some { cls:=.type "tuple",data:=.seq vs.toArray }):(∀ u∈vs,uR A u)/\W2 K (bw K h A) a (vs.map mW):=by
 obtain⟨us,h1,h2,h3⟩:=ar a ha;have hu:us=vs:=by
  rcases h3 with q|q
  ·rw[e]at q;exact absurd (Value.type.inj (ia q).1) (by decide)
  ·rw[e]at q;exact(ia q).2.symm
 subst hu;refine⟨h2,?_⟩;cases hk:K.lookup a with
 |none=>exact .inl (.inr ⟨_,by rw[ij ha hk e,oW]⟩)
 |some o =>
  have e2:=KX a o hk;rw[e]at e2;obtain rfl:=Option.some.inj e2;exact .inr ⟨_,us.toArray,_,hk,rfl,rfl,by rw[List.size_toArray];exact h1,by simpa using Y8 h2⟩
mutual
theorem En {Pm:Params}(KX:K.In h)(ar:∀ a∈A,bK h A a):∀ (d:WData) (v:Value),Well Pm h v d->rO d=true->uR A v->Dw K (bw K h A) (mW v) d
 |.none,_,x,_,_=>by
  cases x;exact .non
 |.bool b,_,x,_,_=>by
  cases x;exact .bl b
 |.int i,_,x,_,_=>by
  cases x;exact .int i
 |.str s,_,x,_,_=>by
  cases x;exact .str s
 |.bytes b,_,x,_,_=>by
  cases x;have z:=Dw.byt (K:=K) (H:=bw K h A) b.toArray;exact z
 |.list ds,_,x,p,hu=>by
  obtain⟨a,vs,rfl,ho,hall⟩:=jT x;obtain⟨h2,hs⟩:=GP KX ar hu ho;exact .lst hs (dw_all KX ar ds _ hall p h2)
 |.tuple ds,_,x,p,hu=>by
  obtain⟨a,vs,rfl,ho,hall⟩:=il x;obtain⟨h2,hs⟩:=GO KX ar hu ho;exact .tup hs (dw_all KX ar ds _ hall p h2)
 |.float _,_,_,p,_=>Bool.noConfusion (show false=true from p)
 |.dict _,_,_,p,_=>Bool.noConfusion (show false=true from p)
 |.bytearray _,_,_,p,_=>Bool.noConfusion (show false=true from p)
 |.set _,_,_,p,_=>Bool.noConfusion (show false=true from p)
 |.frozenset _,_,_,p,_=>Bool.noConfusion (show false=true from p)
 |.obj _ _,_,_,p,_=>Bool.noConfusion (show false=true from p)
theorem dw_all {Pm:Params}(KX:K.In h)(ar:∀ a∈A,bK h A a):∀ (ds:List WData) (vs:List Value),WellAll Pm h vs ds->plWs ds=true->(∀ u∈vs,uR A u)->DwAll K (bw K h A) (vs.map mW) ds
 |[],_,x,_,_=>by
  cases x;exact .nil
 |d::ds,_,x,p,hu=>by
  obtain⟨v,vs,rfl,x1,x2⟩:=jU x;have q:rO d=true/\plWs ds=true:=Bool.and_eq_true_iff.mp p;exact .cons (En KX ar d v x1 q.1 (hu _ (List.mem_cons_self ..))) (dw_all KX ar ds vs x2 q.2 λu m=>hu u (List.mem_cons_of_mem _ m))
end
end
theorem jn {ds:List WData}(h:WData.layableAll ds=true):∀ d∈ds,d.weight<=1048576:=λd hd =>
 (W.layableW_iff.mp (List.all_eq_true.mp h d hd)).2.2
theorem jv:∀ (cs:List Codec) (a:Codec.denoteAll cs),(Codec.encAll cs a).length=cs.length
 |[],_=>rfl
 |c::cs,a=>by
  show(Codec.encAll cs a.2).length+1=cs.length+1;rw[jv cs a.2]
section
variable {M:Model}{A:Around}{E:Value->Shared->Prop}{s:Shared}
def FX (h:Heap)(x:Addr)(vs:Array Value):Prop:=vs[1]?=some .none\/∃ T oT ts,vs[1]?=some (.ref T)/\T≠x/\h.get? T=some oT/\oT.data=.fields ts/\3<ts.size
structure jI (fs:List Addr)(x:Addr)(oe:Obj)(old:Value)(h h':Heap):Prop where
 obj:∃ oe' vs' T oT ts,h'.get? x=some oe'/\oe'.cls=oe.cls/\oe'.dict=oe.dict/\oe'.data=.fields vs'/\vs'[1]?=some (.ref T)/\T≠x/\h'.get? T=some oT/\oT.data=.fields ts/\3<ts.size/\(h.get? T=none\/old=.ref T)
 keep:∀ b o,b≠x->old≠.ref b->b∉fs->h.get? b=some o->h'.get? b=some o
 slot:∀ b o,b≠x->old≠.ref b->h.get? b=some o->∃ sl,h'.get? b=some { o with slots:=sl }
 there:∀ b o,h.get? b=some o->∃ o',h'.get? b=some o'
theorem ye {base:Heap}{env:Env}{outer:List Env}{L x:Addr}{oe:Obj}{vs:Array Value}{head:Value}{hadNext:Bool}{Q:Unit->Shared->Prop}
  (hfr:A.frames=some (env::outer)) (hl:s.heap.FunFrames base (env::outer)) (hf:env.frame=some L)
  (he:s.heap.get? x=some oe) (hd:oe.data=.fields vs) (hsz:1<vs.size)
  (h:∀ h',jI ((env::outer).filterMap (·.frame)) x oe .none s.heap h'->Q () { s with heap:=h' }) :
  wpAny M A (do let a ← frameOf env;let pl ← entryPlaceOf L hadNext;let b ← EntryCells.newEntry head a .none (rawInt L) .none pl;setField (.ref x) 1 b) (λ_ s'=>wpAny M A (setFlight (.ref x) none) Q E s') E s:=by
 have hene:x∉(env::outer).filterMap (·.frame):=λhm=>by
  obtain⟨_,o,ho,hnf⟩:=hl.mem hm;rw[he]at ho;injection ho with ho;subst ho;exact hnf vs hd
 refine wpAny_bind (wpAny_frameOf_fun hfr hl hf λh₁ hs₁=>?_);refine wpAny_bind (wpAny_entryPlaceOf λpl hpl=>?_);unfold EntryCells.newEntry newFields;refine wpAny_bind (wpAny_newObj_type ?_ (hpl.sizeOk5 _ _ _ _ _));have he₁:h₁.get? x=some oe:=(hs₁.2.1 x hene).trans he;have he₂:=Heap.get?_push_of_some (h:=h₁) { cls:=.type "traceback",dict:=none,data:=.fields ([head,.ref L,.none,rawInt L,.none]++(if pl.isEmpty then List.replicate 6 Value.none else pl)).toArray } he₁;refine wpAny_setField he₂ hd hsz ?_;have hTe:h₁.objs.size≠x:=Nat.ne_of_gt (Heap.lt_size he₁);have hd₃:=Obj.data_mapFields hd (·.setIfInBounds 1 (Value.ref h₁.objs.size));have he₃:=Heap.get?_update_self (Obj.mapFields (·.setIfInBounds 1 (Value.ref h₁.objs.size))) he₂ (Obj.isFreed_of_fields hd₃);have hT₃:=(Heap.get?_update_other (h₁.push { cls:=.type "traceback",dict:=none,data:=.fields ([head,.ref L,.none,rawInt L,.none]++(if pl.isEmpty then List.replicate 6 Value.none else pl)).toArray })
  (Obj.mapFields (·.setIfInBounds 1 (Value.ref h₁.objs.size))) (Ne.symm hTe)).trans (Heap.get?_push_size h₁ rfl)
 unfold setFlight;refine wpAny_bind (wpAny_field he₃ hd₃ (x:=.ref h₁.objs.size) (by simp[hsz]) ?_);rw[if_pos (show(Value.ref h₁.objs.size !=Value.none)=true from by simp)];refine wpAny_setField hT₃ rfl (by simp only[List.size_toArray,List.length_append,List.length_cons,List.length_nil]<;>omega) (h _ ?_);have keep:∀ b o,b≠x->h₁.get? b=some o ->
   (((h₁.push { cls:=.type "traceback",dict:=none,data:=.fields ([head,.ref L,.none,rawInt L,.none]++(if pl.isEmpty then List.replicate 6 Value.none else pl)).toArray }).update x (Obj.mapFields (·.setIfInBounds 1 (Value.ref h₁.objs.size)))).update h₁.objs.size
    (Obj.mapFields (·.setIfInBounds 3 ((none:Option Addr).elim Value.none λf=>rawInt f)))).get? b=some o:=λb o hbe hb=>by
  have hbT:h₁.objs.size≠b:=Nat.ne_of_gt (Heap.lt_size hb);rw[Heap.get?_update_other _ _ hbT,Heap.get?_update_other _ _ (Ne.symm hbe)];exact Heap.get?_push_of_some _ hb
 have hx':=(Heap.get?_update_other ((h₁.push { cls:=.type "traceback",dict:=none,data:=.fields ([head,.ref L,.none,rawInt L,.none]++(if pl.isEmpty then List.replicate 6 Value.none else pl)).toArray }).update x (Obj.mapFields (·.setIfInBounds 1 (Value.ref h₁.objs.size))))
  (Obj.mapFields (·.setIfInBounds 3 ((none:Option Addr).elim Value.none λf=>rawInt f))) hTe).trans he₃
 refine⟨⟨_,_,h₁.objs.size,_,_,hx',Obj.cls_mapFields _ _,?_,hd₃,by simp[hsz],hTe,Heap.get?_update_self _ hT₃ (Obj.isFreed_of_fields (Obj.data_mapFields rfl _)),Obj.data_mapFields rfl _,?_,.inl ?_⟩,λb o hb _ hbf e=>keep b o hb ((hs₁.2.1 b hbf).trans e),λb o hb _ e=>?_,λb o e=>?_⟩
 ·obtain⟨c,d,dt,sl⟩:=oe;cases dt<;>rfl
 ·rw[Array.size_setIfInBounds];simp only[List.size_toArray,List.length_append,List.length_cons,List.length_nil];omega
 ·exact Heap.get?_none_of_le (by rw[hs₁.1];exact Nat.le_refl _)
 ·obtain⟨sl,hs⟩:=hs₁.2.2 b o e;exact⟨sl,keep b _ hb hs⟩
 ·by_cases hb:b=x
  ·subst hb;exact⟨_,hx'⟩
  ·obtain⟨sl,hs⟩:=hs₁.2.2 b o e;exact⟨_,keep b _ hb hs⟩
theorem sF {x T:Addr}{oe oT:Obj}{vs ts:Array Value}{fs:List Addr}{Q:Unit->Shared->Prop}(he:s.heap.get? x=some oe)(hd:oe.data=.fields vs)(h1:vs[1]?=some (.ref T))(hTe:T≠x)
  (hT:s.heap.get? T=some oT) (hdT:oT.data=.fields ts) (hsz:3<ts.size) (h:∀ h',jI fs x oe (.ref T) s.heap h'->Q () { s with heap:=h' }):wpAny M A (setFlight (.ref x) none) Q E s:=by
 unfold setFlight;refine wpAny_bind (wpAny_field he hd h1 ?_);rw[if_pos (show(Value.ref T !=Value.none)=true from by simp)];have other:∀ b,b≠T->(s.heap.update T (Obj.mapFields (·.setIfInBounds 3 ((none:Option Addr).elim Value.none λf=>rawInt f)))).get? b=s.heap.get? b :=
  λb hb=>Heap.get?_update_other _ _ (Ne.symm hb)
 have self':=Heap.get?_update_self (Obj.mapFields (·.setIfInBounds 3 ((none:Option Addr).elim Value.none λf=>rawInt f))) hT (Obj.isFreed_of_fields (Obj.data_mapFields hdT _));refine wpAny_setField hT hdT hsz (h _ ⟨⟨oe,vs,T,_,_,(other x (Ne.symm hTe)).trans he,rfl,rfl,hd,h1,hTe,self',Obj.data_mapFields hdT _,by rw[Array.size_setIfInBounds];exact hsz,.inr rfl⟩,λb o hb ho _ e=>(other b λq=>ho (by rw[q])).trans e,λb o hb ho e=>⟨o.slots,(other b λq=>ho (by rw[q])).trans e⟩,λb o e=>?_⟩);by_cases hb:b=T
 ·subst hb;exact⟨_,self'⟩
 ·exact⟨o,(other b hb).trans e⟩
theorem FC {base:Heap}{env:Env}{outer:List Env}{L x:Addr}{oe:Obj}{vs:Array Value}{Q:Unit->Shared->Prop}
  (hfr:A.frames=some (env::outer)) (hl:s.heap.FunFrames base (env::outer)) (hf:env.frame=some L)
  (he:s.heap.get? x=some oe) (hd:oe.data=.fields vs) (h1:FX s.heap x vs)
  (h:∀ h' old,vs[1]?=some old->jI ((env::outer).filterMap (·.frame)) x oe old s.heap h'->Q () { s with heap:=h' }) :
  wpAny M A (noteFrame (.ref x) env) (λ_ s'=>wpAny M A (setFlight (.ref x) none) Q E s') E s:=by
 rcases h1 with h1|⟨T,oT,ts,h1,hTe,hT,hdT,hsz⟩
 ·unfold noteFrame;simp only[hf];refine wpAny_bind (wpAny_field he hd h1 ?_);rw[if_neg (by decide)];exact ye hfr hl hf he hd (Array.getElem?_eq_some_iff.mp h1).1 λh' n=>h h' _ h1 n
 ·by_cases hr:(ts[3]'hsz==rawInt L)=true
  ·unfold noteFrame;simp only[hf];refine wpAny_bind (wpAny_field he hd h1 ?_);rw[if_pos (show(Value.ref T !=Value.none)=true from by simp)];refine wpAny_bind (wpAny_field hT hdT (Array.getElem?_eq_getElem hsz) ?_);rw[if_pos hr];exact wpAny_pure (sF he hd h1 hTe hT hdT hsz λh' n=>h h' _ h1 n)
  ·unfold noteFrame;simp only[hf];refine wpAny_bind (wpAny_field he hd h1 ?_);rw[if_pos (show(Value.ref T !=Value.none)=true from by simp)];refine wpAny_bind (wpAny_field hT hdT (Array.getElem?_eq_getElem hsz) ?_);rw[if_neg hr];refine wpAny_bind (wpAny_setField hT hdT hsz ?_);have other:∀ b,b≠T->(s.heap.update T (Obj.mapFields (·.setIfInBounds 3 Value.none))).get? b=s.heap.get? b:=λb hb=>Heap.get?_update_other _ _ (Ne.symm hb);have self':=Heap.get?_update_self (Obj.mapFields (·.setIfInBounds 3 Value.none)) hT (Obj.isFreed_of_fields (Obj.data_mapFields hdT _));have noRecord:∀ b o,s.heap.get? b=some o->(∀ vs,o.data≠.fields vs)->b≠T:=λb o hb hnf q=>by
    rw[q,hT]at hb;injection hb with hb;subst hb;exact hnf ts hdT
   have back:∀ b o,s.heap.get? b=some o->∃ o',(s.heap.update T (Obj.mapFields (·.setIfInBounds 3 Value.none))).get? b=some o':=λb o e=>by
    by_cases hb:b=T
    ·subst hb;exact⟨_,self'⟩
    ·exact⟨o,(other b hb).trans e⟩
   refine ye (s:={ s with heap:=s.heap.update T (Obj.mapFields (·.setIfInBounds 3 Value.none)) }) hfr (hl.of_keeps λb o hb hnf=>⟨o,(other b (noRecord b o hb hnf)).trans hb,rfl⟩) hf ((other x (Ne.symm hTe)).trans he) hd (Array.getElem?_eq_some_iff.mp h1).1 λh' n=>h h' (.ref T) h1 ?_;obtain⟨n1,n2,n3,n4⟩:=n;refine⟨?_,λb o hb ho hbf e=>n2 b o hb (by intro q;cases q) hbf ((other b λq=>ho (by rw[q])).trans e),λb o hb ho e=>n3 b o hb (by intro q;cases q) ((other b λq=>ho (by rw[q])).trans e),λb o e=>let⟨o',e'⟩:=back b o e;n4 b o' e'⟩;obtain⟨oe',vs',T',oT',ts',q1,q2,q3,q4,q5,q6,q7,q8,q9,q10⟩:=n1;refine⟨oe',vs',T',oT',ts',q1,q2,q3,q4,q5,q6,q7,q8,q9,?_⟩;rcases q10 with q|q
   ·refine .inl ?_;cases z:s.heap.get? T' with
    |none=>rfl
    |some o =>
     obtain⟨o',e'⟩:=back _ _ z;have q':(s.heap.update T (Obj.mapFields (·.setIfInBounds 3 Value.none))).get? T'=none:=q;rw[e']at q';cases q'
   ·cases q
end
theorem y3.gone {P:Program}{w:World}{H:Hp}{h:Heap}{a:Addr}{o:HO}(x:y3 P w H h a o)(e:h.get? a=none):False:=by
 induction o with
 |lst xs=>obtain⟨_,_,_,_,q⟩:=x;rw[e]at q;cases q
 |tup xs=>obtain⟨_,_,_,_,q,_⟩:=x;rw[e]at q;cases q
 |dK kvs=>obtain⟨_,_,_,_,_,_,_,q,_⟩:=x;rw[e]at q;cases q
 |dT kvs=>obtain⟨_,_,_,_,_,_,_,q,_⟩:=x;rw[e]at q;cases q
 |set S n=>obtain⟨_,_,_,_,q,_⟩:=x;rw[e]at q;cases q
 |ins C dx fs=>obtain⟨_,_,_,q,_⟩:=x;rw[e]at q;cases q
 |own y=>obtain⟨_,q⟩:=x;rw[e]at q;cases q
 |xd fs=>obtain⟨_,⟨_,_,_,q,_⟩,_⟩:=x;rw[e]at q;cases q
 |rng lo hi=>obtain⟨_,_,_,q⟩:=x;rw[e]at q;cases q
 |frz ob u ih=>exact ih x.2
 |tbl ps=>have q:h.get? a=some _:=x;rw[e]at q;cases q
 |met f y=>have q:h.get? a=some _:=x;rw[e]at q;cases q
 |ext φ=>obtain⟨_,⟨_,q⟩,_⟩:=x;rw[e]at q;cases q
structure qR (h0:Heap)(H:Hp)(h:Heap)(x:Addr)(cls:Value)(od:Option Addr):Prop where
 free:H x=none
 new:h0.get? x=none
 obj:∃ oe vs,h.get? x=some oe/\oe.cls=cls/\oe.dict=od/\oe.data=.fields vs/\(vs[1]?=some .none\/∃ T oT ts,vs[1]?=some (.ref T)/\T≠x/\h.get? T=some oT/\oT.data=.fields ts/\3<ts.size/\H T=none/\h0.get? T=none)
theorem qR.mono {h0 h1:Heap}{H:Hp}{h:Heap}{x:Addr}{cls:Value}{od:Option Addr}(f:qR h0 H h x cls od)(k:∀ b,h0.get? b=none->h1.get? b=none):qR h1 H h x cls od :=
 ⟨f.free,k _ f.new,let⟨oe,vs,a,b,c,d,e⟩:=f.obj;⟨oe,vs,a,b,c,d,e.imp id λ⟨T,oT,ts,q1,q2,q3,q4,q5,q6,q7⟩=>⟨T,oT,ts,q1,q2,q3,q4,q5,q6,k _ q7⟩⟩⟩
def A7 (P:Program)(w:World):yD:=λouter H s E e s'=>∃ x cls od H',e=.ref x/\s'.os=s.os/\AllBare s'.gens/\Un (qE outer) [] H H' s.heap s'.heap/\ay P w H' s'.heap/\qR s.heap H' s'.heap x cls od/\E cls od H'
section
variable {X:Cx}{pins:List (Addr×Obj)}{σ σ₁:St}{H H' H₁:Hp}{s s₁:Shared}{h':Heap}
def iO:Value->List Addr
 |.ref T=>[T]
 |_=>[]
theorem O9 {h0 h1:Heap}(k:∀ b o,h0.get? b=some o->∃ o',h1.get? b=some o'):∀ b,h1.get? b=none->h0.get? b=none:=λb e=>by
 cases q:h0.get? b with
 |none=>rfl
 |some o =>
  obtain⟨o',e'⟩:=k b o q;rw[e]at e';cases e'
theorem j7.stepF {ch:List Addr}(I:j7 X pins σ H s)(hex:X.ex=[])
  (hch:∀ b∈ch,X.s_0.heap.get? b=none/\b≠X.env.locals/\(∀ x c,X.env.cells.lookup x=some c->c≠b)/\∀ p∈X.pn++pins,p.1≠b)
  (u:Un (qE X.stack) ch H H s.heap h') (hok:ay X.prog X.w H h'):j7 X pins σ H { s with heap:=h' }:=by
 obtain⟨m,⟨o0,es0,ep0,ho0,r0⟩,_⟩:=id I.loc;obtain⟨sl0,hL0⟩:=u.any ho0 I.free λz=>(hch _ z).2.1 rfl;have keep:∀ b o,b≠X.env.locals->b∉X.fs->b∉ch->s.heap.get? b=some o->H b=none->h'.get? b=some o:=λb o hL hb hc e n=>u.keep b o e n (λz=>(List.mem_cons.mp (I.stkSub b z)).elim hL hb) hc;have slot:∀ b o,b≠X.env.locals->b∈X.fs->b∉ch->s.heap.get? b=some o->H b=none->∃ sl,h'.get? b=some { o with slots:=sl }:=λb o _ _ hc e n=>u.any e n hc;have ns:∀ m,s.heap.Ns X.env.locals m->h'.Ns X.env.locals m:=λm' hm=>by
  obtain⟨o',es',ep',ho',r'⟩:=hm;rw[ho0]at ho';cases ho';exact⟨_,es',ep',hL0,r'⟩
 have neL:∀ b o,X.s_0.heap.get? b=some o->b≠X.env.locals:=λb o e=>Nat.ne_of_lt (Nat.lt_of_lt_of_le (Heap.lt_size e) I.ok.above);have neC:∀ b o,X.s_0.heap.get? b=some o->b∉ch:=λb o e hb=>by
  rw[(hch b hb).1]at e;cases e
 have cellK:∀ x c,X.env.cells.lookup x=some c->∀ v,s.heap.IsCell c v->h'.IsCell c v:=λx c e v ⟨o,ho,hd⟩=>by
  have nch:c∉ch:=λz=>(hch c z).2.2.1 x c e rfl;by_cases hc:c∈X.fs
  ·obtain⟨sl,q⟩:=slot c o (I.cne x c e) hc nch ho (I.freeC x c e);exact⟨_,q,hd⟩
  ·exact⟨o,keep c o (I.cne x c e) hc nch ho (I.freeC x c e),hd⟩
 refine⟨I.ok,I.os,I.bare,⟨λb o e n hb hx=>?_,λb o e n hb hx=>?_,λb o e n hx=>?_,λb o e hx=>?_,I.base.tups,I.base.frzs,I.base.tbls⟩,?_,λx c e=>?_,I.free,I.freeC,λp hp=>?_,hok,I.len⟩
 ·exact keep b o (neL b o e) hb (neC b o e) (I.base.keep b o e n hb hx) (I.base.free b o e n hx)
 ·obtain⟨sl,e1⟩:=I.base.slot b o e n hb hx;obtain⟨sl',e2⟩:=slot b _ (neL b o e) hb (neC b o e) e1 (I.base.free b o e n hx);exact⟨sl',e2⟩
 ·exact I.base.free b o e n hx
 ·obtain⟨o',e1⟩:=I.base.there b o e hx;exact u.there b o' e1 (neC b o e)
 ·obtain⟨m,hn,hl⟩:=I.loc;refine⟨m,ns m hn,λi x v e1 e2 e3=>?_⟩;obtain⟨u,r,l⟩:=hl i x v e1 e2 e3;refine⟨u,r,?_⟩;rcases l with l|⟨k,c,e,z⟩
  ·exact .inl l
  ·exact .inr ⟨k,c,e,cellK x c e _ z⟩
 ·obtain⟨v,z⟩:=I.cell x c e;exact⟨v,cellK x c e v z⟩
 ·obtain⟨e,n,ne,nf,d⟩:=I.pin p hp;have nch:p.1∉ch:=λz=>(hch p.1 z).2.2.2 p hp rfl;exact⟨keep p.1 p.2 ne nf nch e n,n,ne,nf,d⟩
theorem j7.apart (I₁:j7 X pins σ₁ H₁ s₁)(hex:X.ex=[]){b:Addr}(e:s₁.heap.get? b=none):X.s_0.heap.get? b=none/\b≠X.env.locals/\(∀ x c,X.env.cells.lookup x=some c->c≠b)/\∀ p∈X.pn++pins,p.1≠b:=by
 refine⟨O9 (λb o q=>I₁.base.there b o q (by rw[hex];simp)) b e,λz=>?_,λx c hc z=>?_,λp hp z=>?_⟩
 ·obtain⟨_,⟨o,_,_,ho,_⟩,_⟩:=I₁.loc;rw[z,ho]at e;cases e
 ·obtain⟨_,o,ho,_⟩:=I₁.cell x c hc;rw[z,e]at ho;cases ho
 ·have:=(I₁.pin p hp).1;rw[z,e]at this;cases this
theorem cY {fs:List Addr}{x:Addr}{oe:Obj}{vs:Array Value}{old:Value}{od:Option Addr}{cls:Value}(hfs:∀ b,b∈fs->b∈qE X.stack)(hex:X.ex=[])(I₁:j7 X pins σ₁ H₁ s₁)(I:j7 X pins σ H s)(f:qR s₁.heap H s.heap x cls od)
  (he:s.heap.get? x=some oe) (hd:oe.data=.fields vs) (ho:vs[1]?=some old) (N:jI fs x oe old s.heap h') (ks:∀ b o,s₁.heap.get? b=some o->∃ o',s.heap.get? b=some o') :
  j7 X pins σ H { s with heap:=h' }/\qR s₁.heap H h' x cls od:=by
 obtain⟨ff,fn,oe',vs',he',hc,hdd,hd',tb⟩:=f;rw[he]at he';cases he';rw[hd]at hd';cases hd';have hT:∀ T,old=.ref T->H T=none/\s₁.heap.get? T=none:=λT e=>by
  rcases tb with q|⟨T',oT,ts,q,_,_,_,_,q6,q7⟩
  ·rw[ho,e]at q;cases q
  ·rw[ho,e]at q;cases q;exact⟨q6,q7⟩
 have nx:∀ b u,H b=some u->b≠x:=λb u e z=>by rw[z,ff]at e;cases e
 have nT:∀ b u,H b=some u->old≠.ref b:=λb u e z=>by rw[(hT b z).1]at e;cases e
 have nf:∀ b u,H b=some u->b∉fs:=λb u e z=>by rw[I.stkFree b (hfs b z)]at e;cases e
 have hok:ay X.prog X.w H h':=λb u e=>by
  refine(I.hok b u e).stay (λc v hc q=>?_) (λ_ q=>q) λ_ _ q=>q;have:∃ u',H c=some u':=by
   rcases hc with rfl|z
   ·exact⟨_,e⟩
   ·exact⟨_,z⟩
  obtain⟨u',e'⟩:=this;exact N.keep c v (nx c u' e') (nT c u' e') (nf c u' e') q
 refine⟨?_,ff,fn,?_⟩
 ·refine I.stepF (ch:=x::iO old) hex (λb hb=>?_) ⟨λb o e n hb hx=>?_,λb o e n hb hx=>?_,λb o e n hx=>n,λb o e hx=>N.there b o e,λ_ _ e=>e,λ_ _ _ e=>e,λb ps e=>⟨#[],by rw[e];simp⟩⟩ hok
  ·refine I₁.apart hex ?_;rcases List.mem_cons.mp hb with rfl|hb
   ·exact fn
   ·cases old with
    |ref T =>
     have:b=T:=by simpa[iO]using hb
     subst this;exact(hT b rfl).2
    |_=>simp[iO]at hb
  ·refine N.keep b o (λz=>hx (by simp[z])) (λz=>hx ?_) (λz=>hb (hfs b z)) e;rw[z];simp[iO]
  ·refine N.slot b o (λz=>hx (by simp[z])) (λz=>hx ?_) e;rw[z];simp[iO]
 ·obtain⟨oe',vs',T,oT,ts,q1,q2,q3,q4,q5,q6,q7,q8,q9,q10⟩:=N.obj;refine⟨oe',vs',q1,q2.trans hc,q3.trans hdd,q4,.inr ⟨T,oT,ts,q5,q6,q7,q8,q9,?_⟩⟩;rcases q10 with q|q
  ·refine⟨?_,O9 ks _ q⟩;cases z:H T with
   |none=>rfl
   |some u =>
    exact(y3.gone (I.hok T u z) q).elim
  ·exact hT T q
def AF (X:Cx)(E:XK):Prop:=∀ (pins:List (Addr×Obj)) (σ₁:St) (H₁:Hp) (s₁:Shared) (σ:St) (H:Hp) (s:Shared) (x:Addr) (cls:Value) (od:Option Addr),j7 X pins σ₁ H₁ s₁->j7 X pins σ H s ->
 (∀ b o,s₁.heap.get? b=some o->∃ o',s.heap.get? b=some o')->qR s₁.heap H s.heap x cls od->E cls od H->X.xe (.ref x) s
theorem AF.pass {E:XK}(h:AF X E):F6 (A7 X.prog X.w) X E:=λpins σ H s e s' I ⟨x,cls,od,H',e1,os,bare,un,hok,f,hE⟩=>by
 subst e1;exact h pins σ H s σ H' s' x cls od I (I.call' os un hok bare (ch:=[]) λb z=>absurd z (by simp)) (λb o q=>un.there b o q (by simp)) f hE
theorem pb {x:Addr}{cls:Value}{od:Option Addr}{Q:Unit->Shared->Prop}{E':Value->Shared->Prop}(hst:X.stack=X.env::X.outer)(hfr:X.env.frame=some X.env.locals)(hex:X.ex=[])(I₁:j7 X pins σ₁ H₁ s₁)(I:j7 X pins σ H s)
  (ks:∀ b o,s₁.heap.get? b=some o->∃ o',s.heap.get? b=some o') (f:qR s₁.heap H s.heap x cls od) (h:∀ h',j7 X pins σ H { s with heap:=h' }->qR s₁.heap H h' x cls od->(∀ b o,s₁.heap.get? b=some o->∃ o',h'.get? b=some o')->Q () { s with heap:=h' }) :
  wpAny (model X.prog X.w) X.A (noteFrame (.ref x) X.env) (λ_ s'=>wpAny (model X.prog X.w) X.A (setFlight (.ref x) none) Q E' s') E' s:=by
 obtain⟨oe,vs,he,hc,hdd,hd,tb⟩:=id f.obj;have hF:s.heap.FunFrames X.base (X.env::X.outer):=by rw[<-hst];exact I.stack
 refine FC (I.ok.frames.trans (congrArg some hst)) hF hfr he hd (tb.imp id λ⟨T,oT,ts,q1,q2,q3,q4,q5,_⟩=>⟨T,oT,ts,q1,q2,q3,q4,q5⟩) λh' old ho N=>?_;obtain⟨I',f'⟩:=cY (λb hb=>by rw[hst];exact hb) hex I₁ I f he hd ho N ks;exact h h' I' f' λb o q=>let⟨o',q'⟩:=ks b o q;N.there b o' q'
end
section
variable {P:Program}{w:World}{K:W.Frag}{mg:Str->Option Value}{base:Heap}{N:List Str}{qual:Str}{scope:Scope}{f:Addr}{cd:Value}{A:Around}{outer:List Env}{s0:Shared}{H0:Hp}{E:XK}
theorem N0:AF (dj (A7 P w) P w K mg base N qual scope f cd A outer s0 H0 E) E:=λpins σ₁ H₁ s₁ σ H s x cls od I₁ I ks fl hE=>by
 show wpAny _ _ (leaving _ _) _ _ s;unfold leaving;refine wpAny_bind (pb rfl rfl rfl I₁ I ks fl λh' I' fl' _=>⟨x,cls,od,H,rfl,I'.os,I'.bare,I'.base,I'.hok,fl'.mono ?_,hE⟩);exact O9 λb o q=>I₁.base.there b o q (by intro z;exact absurd (show b∈([]:List Addr) from z) (by simp))
theorem d6:F6 (A7 P w) (dj (A7 P w) P w K mg base N qual scope f cd A outer s0 H0 E) E:=AF.pass (X:=dj (A7 P w) P w K mg base N qual scope f cd A outer s0 H0 E) N0
theorem J3:PassesOwn (model P w) (dj (A7 P w) P w K mg base N qual scope f cd A outer s0 H0 E).A (dj (A7 P w) P w K mg base N qual scope f cd A outer s0 H0 E).env (dj (A7 P w) P w K mg base N qual scope f cd A outer s0 H0 E).xe:=PassesOwn.leaving
theorem F1.okX {x qual:Str}{st:Stmt}{f:Addr}{fd:FuncData}{N ps:List Str}{k:Nat}{sp:Sp}(F:F1 K x qual st f fd)(S:i6 N ps (d8 st))(len:∀ vs H Q E,sp vs H Q E->vs.length=ps.length)
  (hbody:∀ (cdv:Value) (A:Around) (outer:List Env) (s:Shared) (H:Hp) (vs:List V) (Q:VK) (E:XK),F9 k (A.deeper (envOfC qual (d8 st) s.heap.objs.size f cdv))->sp vs H Q E ->
   ∃ t,pJ (dj (A7 P w) P w K mg base N qual (d8 st) f cdv A outer s H E) (F5 st) t/\t { nx:=λ_ H'=>Q .non H',rt:=Q } (start N vs) H):o8 P w K mg base (A7 P w) (k+1) f fd ps sp:=by
 obtain⟨oc,od,kV,doc,pm,an,cdv,ct,osl,rfl,lk,hcd⟩:=F.ex;exact Bk lk hcd S len λA outer s H vs Q E hr hsp=>hbody cdv A outer s H vs Q E hr hsp
end
structure FW (K:W.Frag)(C:Addr):Prop where
 exc:W.excIn K C [.type "Exception",.type "BaseException",.type "object"] "Exception.__new__"=true
theorem An {K:W.Frag}{h:Heap}{C:Addr}{bmB:List Value}{newId:String}(X:K.In h)(q:W.excIn K C bmB newId=true) :
  ∃ bm N nm qn bs hdct sn sub ab col dd k0 k1 k2 k3 k5 mN,h.get? C=some (excClassObj nm qn C N bs bm hdct sn sub ab col dd k0 k1 k2 k3 k5 newId)/\h.Ns N mN/\mN "__init__"=none/\OwnTail h bmB bm:=by
 unfold W.excIn at q;split at q
 ·rename_i dd cd sl ho
  split at q
  ·rename_i C' bm k0 k1 k2 k3 n k5 hm hs
   simp only[Bool.and_eq_true,beq_iff_eq,Bool.not_eq_true']at q;obtain⟨⟨⟨⟨⟨rfl,rfl⟩,hdel⟩,ht⟩,hok⟩,hni⟩:=q;obtain⟨nm,bs,mro,ns,qn,hd,sn,sub,ab,col,del⟩:=cd;dsimp only at hm hdel hok hni;subst hm hdel;have hsl:sl=#[k0,k1,k2,k3,some (.builtin n),k5]:=by
    obtain⟨l⟩:=sl;simp only at hs;rw[hs]
   subst hsl;exact⟨bm,ns,nm,qn,bs,hd,sn,sub,ab,col,dd,k0,k1,k2,k3,k5,_,X _ _ ho,.of_isNs (W.isNs_of_in X hok),W.nsMap_none_of_in X hok hni,W.tail_of_in X ht⟩
  ·cases q
 ·cases q
section
variable {X:Cx}{E:XK}{c:Str}{C:Addr}{np cpos pos:Pos}
def yK (C:Addr)(E:XK):TS:=λ_ _ H=>E (.ref C) none H
theorem K8 (ht:AF X E)(hc:X.calm=true)(hg:Gl X c)(hm:X.mg c=some (.ref C))(x:FW X.K C)(hd:(c==("__debug__" : Str))=false:=by decide) :
  PS X (.Raise (some (.Call (.Name c np) [] [] cpos)) none pos) (yK C E):=by
 intro pins s σ H D I hq;obtain⟨bm,Na,nm,qn,bs,hdct,sn,sub,ab,col,dd,k0,k1,k2,k3,k5,mN,hC,hN,hni,T⟩:=An I.kIn x.exc;refine wpAny_Raise_call_subT (C:=C) (nm:=nm) (q:=qn) (N:=Na) (bs:=bs) (bm:=bm) (hdct:=hdct) (sn:=sn) (sub:=sub) (ab:=ab) (col:=col) (dd:=dd) (k0:=k0) (k1:=k1) (k2:=k2) (k3:=k3) (k5:=k5)
  PySem.F.excBase_Exception (mN:=mN) (T.hasType PySem.F.excBase_Exception.hasBase) (I.ok.hd hc) rfl hni (cV I hg hm ⟨rfl,?_⟩ hd)
 refine evalArgs_empty ⟨rfl,Nat.zero_le _,hC,hN,T,λh' e m=>?_⟩;refine ht pins σ H s σ H _ e (.ref C) none I (I.kept (t':=s.toks) m.keeps) (λb o q=>⟨o,m.keeps b o q⟩) ⟨?_,m.new,?_⟩ hq
 ·cases z:H e with
  |none=>rfl
  |some u=>exact(y3.gone (I.hok e u z) m.new).elim
 ·obtain⟨t,h1,_,_⟩:=m.there;exact⟨_,_,h1,rfl,rfl,rfl,.inl rfl⟩
end
open PySem.Builtin PySem.Builtin.ObjectAttr
section
variable {P:Program}{w:World}{A:Around}{E:Value->Shared->Prop}{hp:Heap}{gs:Array GenState}{dr:Drawn}{tk:Nat}{os:OsState}
variable {cn cq:Str}{C Nc x:Addr}{cb bmr:List Value}{csn:List Str}{csub:List Value}{cab:Bool}{ccol:Option Bool}{cdd:Option Addr}{p0 p1 p2 p3 p5:Option Value}{B idn ids own:String}
 {mC mA:Str->Option Value}{name:Str}{v:Value}
theorem lg {tn:Tok}{Q:Fin->Shared->Prop}{nms:List Str}{ob:Obj}(SF:StoreFacts B bmr ids own)
  (hC:hp.get? C=some (excClassObj cn cq C Nc cb bmr true csn csub cab ccol cdd p0 p1 p2 p3 p5 idn)) (hN:hp.Ns Nc mC) (hno:mC name=none) (hB:typeLookup (.type B) name=pure none)
  (hx:hp.get? x=some ob) (hcl:ob.cls=.ref C) (hdat:∃ vs,ob.data=.fields vs) (hdi:(ob.dict=none/\mA=λ_=>none)\/∃ dx,ob.dict=some dx/\dx≠x/\hp.Ns1 dx mA)
  (hw:Within mA nms) (hsz:nms.length<=sizeLine)
  (hq:∀ h2 t2 dx,(ob.dict=some dx\/(ob.dict=none/\dx=hp.objs.size))->dx≠x->h2.Ns1 dx (λy=>if y=name then some v else mA y)->h2.get? x=some { ob with dict:=some dx }->(∀ b u,b≠x->b≠dx->hp.get? b=some u->h2.get? b=some u)->Q (.done (.ret .none)) ⟨h2,gs,dr,t2,os⟩) :
  wpAny (model P w) A (Builtin.«object.__setattr__» ⟨[.ref x,.str name tn,v],[]⟩) Q E ⟨hp,gs,dr,tk,os⟩:=by
 have hps:=SF.passes (.ref x);obtain⟨vs,hvs⟩:=hdat;unfold Builtin.«object.__setattr__»
 repeat (first
  |rw[refuse_eq]
  | (rw[refuseLoop_ref,hps])
  | (with_reducible refine wpAny_loadPart_at hx ?_;rw[hcl])
  |with_reducible refine wpAny_mroOf_exc hC ?_
  | (with_reducible refine wpAny_typeLookup_exc hC hN SF.mro hB ?_;rw[hno])
  |wp_step)
 rcases hdi with⟨e0,rfl⟩|⟨dx,e0,hne,hns⟩
 ·rw[e0,if_neg (by simp[typeHasDict])];split
  ·rename_i z
   cases z
  ·split
   ·rename_i c z
    rw[hvs]at z;cases z
   ·have hx1:(hp.push { cls:=.type "dict",data:=.dict #[] }).get? x=some ob:=Heap.get?_push_of_some _ hx;have hxs:x≠hp.objs.size:=Nat.ne_of_lt (Heap.lt_size hx);refine wpAny_bind (wpAny_alloc' (wpAny_bind (wpAny_update' hx1 (wpAny_pure ?_))));have g1:((hp.push { cls:=.type "dict",data:=.dict #[] }).update x λu=>{ cls:=u.cls,dict:=some hp.objs.size,data:=u.data,slots:=u.slots }).get? hp.objs.size=some { cls:=.type "dict",data:=.dict #[] } :=
     (Heap.get?_update_ne _ _ _ _ hxs.symm).trans (Heap.get?_push_at rfl rfl)
    have g2:((hp.push { cls:=.type "dict",data:=.dict #[] }).update x λu=>{ cls:=u.cls,dict:=some hp.objs.size,data:=u.data,slots:=u.slots }).Ns hp.objs.size (λ_=>none) :=
     ⟨_,#[],_,g1,rfl,(λq hq'=>absurd hq' (by simp)),λ_=>rfl⟩
    show wpAny _ _ (storeInDict hp.objs.size (.str name tn) name v) _ _ _;unfold storeInDict newKeyGuard;refine wpAny_bind (wpAny_pure (wpAny_bind (wpAny_nsSet1 (Heap.Ns1.of_empty g2) λh2 n2 s2=>?_)));obtain⟨oD,eD,pD,q1,q2,q3⟩:=n2.count (Within.cons name v Within.nil);refine wpAny_bind (wpAny_lookBehind q1 (by rw[q2];exact pastItsLine_dict (Nat.le_trans q3 (by rw[List.length_cons,List.length_nil,sizeLine_eq];omega))) ?_)
    wp_walk
    refine hq h2 _ hp.objs.size (.inr ⟨e0,rfl⟩) (Ne.symm hxs) n2 ?_ λb u hb hd z=>(s2.2 b hd).trans ((Heap.get?_update_ne _ _ _ _ hb).trans (Heap.get?_push_of_some _ z));refine(s2.2 x hxs).trans (Heap.get?_update_self _ hx1 ?_);obtain⟨oc,od,odt,osl⟩:=ob;cases hvs;rfl
 ·rw[e0];refine wpAny_pure ?_;show wpAny _ _ (storeInDict dx (.str name tn) name v) _ _ _;unfold storeInDict newKeyGuard;refine wpAny_bind (wpAny_pure (wpAny_bind (wpAny_nsSet1 hns λh2 n2 s2=>?_)));obtain⟨oD,eD,pD,q1,q2,q3⟩:=n2.count (Within.cons name v hw);refine wpAny_bind (wpAny_lookBehind q1 (by rw[q2];exact pastItsLine_dict (Nat.le_trans q3 (by rw[List.length_cons];omega))) ?_)
  wp_walk
  refine hq h2 _ dx (.inl e0) hne n2 ?_ λb u hb hd z=>(s2.2 b hd).trans z;rw[(s2.2 x hne.symm).trans hx];obtain⟨oc,od,odt,osl⟩:=ob;cases(show od=some dx from e0);rfl
theorem Bv {Q:Unit->Shared->Prop}{nms:List Str}{ob:Obj}(SF:StoreFacts B bmr ids own)
  (hC:hp.get? C=some (excClassObj cn cq C Nc cb bmr true csn csub cab ccol cdd p0 p1 p2 p3 p5 idn)) (hN:hp.Ns Nc mC) (hns:mC "__setattr__"=none) (hno:mC name=none) (hB:typeLookup (.type B) name=pure none)
  (hx:hp.get? x=some ob) (hcl:ob.cls=.ref C) (hdat:∃ vs,ob.data=.fields vs) (hdi:(ob.dict=none/\mA=λ_=>none)\/∃ dx,ob.dict=some dx/\dx≠x/\hp.Ns1 dx mA)
  (hw:Within mA nms) (hsz:nms.length<=sizeLine)
  (hq:∀ h2 t2 dx,(ob.dict=some dx\/(ob.dict=none/\dx=hp.objs.size))->dx≠x->h2.Ns1 dx (λy=>if y=name then some v else mA y)->h2.get? x=some { ob with dict:=some dx }->(∀ b u,b≠x->b≠dx->hp.get? b=some u->h2.get? b=some u)->Q () ⟨h2,gs,dr,t2,os⟩) :
  wpAny (model P w) A (setAttr (.ref x) name v) Q E ⟨hp,gs,dr,tk,os⟩:=by
 have sb:=SF.slot.bind (.ref x);unfold setAttr callSpecial? specialOf
 repeat (any_goals (first
  |assumption
  | (with_reducible refine wpAny_loadPart_at hx ?_;rw[hcl])
  | (with_reducible refine wpAny_typeLookup_exc hC hN SF.mro SF.slot.lookup ?_;rw[hns])
  |wp_step))
 refine codeAny_call_builtin SF.slot.plain SF.entry (wpAny_check_sa SF hC hx hcl (lg SF hC hN hno hB hx hcl hdat hdi hw hsz λh2 t2 dx e1 e2 e3 e4 e5=>?_))
 repeat (any_goals (first|assumption|wp_step))
 exact hq h2 t2 dx e1 e2 e3 e4 e5
end
section
variable {P:Program}{w:World}{A:Around}{E:Value->Shared->Prop}{hp:Heap}{gs:Array GenState}{dr:Drawn}{tk:Nat}{os:OsState}
variable {cn cq:Str}{C Nc x dx:Addr}{cb bmr:List Value}{csn:List Str}{csub:List Value}{cab:Bool}{ccol:Option Bool}{cdd:Option Addr}{p0 p1 p2 p3 p5:Option Value}{B idn:String}
 {mC mA:Str->Option Value}{name:Str}{v:Value}{ob:Obj}{vs:Array Value}
theorem ng {tn:Tok}{Q:Fin->Shared->Prop}(FB:ExcAttrBase B bmr)
  (hC:hp.get? C=some (excClassObj cn cq C Nc cb bmr true csn csub cab ccol cdd p0 p1 p2 p3 p5 idn)) (hN:hp.Ns Nc mC) (hno:mC name=none) (hB:typeLookup (.type B) name=pure none)
  (hx:hp.get? x=some ob) (hcl:ob.cls=.ref C) (hdat:ob.data=.fields vs) (hdi:ob.dict=some dx) (hns:hp.Ns1 dx mA) (hv:mA name=some v) (hq:Q (.done (.ret v)) ⟨hp,gs,dr,tk,os⟩) :
  wpAny (model P w) A (Builtin.«object.__getattribute__» ⟨[.ref x,.str name tn],[]⟩) Q E ⟨hp,gs,dr,tk,os⟩:=by
 unfold Builtin.«object.__getattribute__»
 repeat (first
  | (with_reducible refine wpAny_loadPart_at hx ?_;rw[hcl])
  | (with_reducible refine wpAny_typeLookup_exc hC hN FB.mro hB ?_;rw[hno])
  |wp_step)
 split
 ·rename_i c z
  rw[hdat]at z;cases z
 ·unfold instanceDict
  repeat (first
   | (with_reducible refine wpAny_loadPart_at hx ?_;rw[hcl])
   |with_reducible refine wpAny_loadPart_at hC ?_
   |wp_step)
  rw[hdi]
  repeat (first
   | (with_reducible refine wpAny_nsGet hns.ns ?_;rw[hv])
   |wp_step)
  exact hq
theorem EK {expr:Bool}{Q:Value->Shared->Prop}(FB:ExcAttrBase B bmr)
  (hC:hp.get? C=some (excClassObj cn cq C Nc cb bmr true csn csub cab ccol cdd p0 p1 p2 p3 p5 idn)) (hN:hp.Ns Nc mC) (hg1:mC "__getattribute__"=none) (hg2:mC "__getattr__"=none) (hno:mC name=none) (hB:typeLookup (.type B) name=pure none)
  (hx:hp.get? x=some ob) (hcl:ob.cls=.ref C) (hdat:ob.data=.fields vs) (hdi:ob.dict=some dx) (hns:hp.Ns1 dx mA) (hv:mA name=some v) (hh:handedOut v=pure v) (hq:Q v ⟨hp,gs,dr,tk+1,os⟩) :
  wpAny (model P w) A (getAttr (.ref x) name expr) Q E ⟨hp,gs,dr,tk,os⟩:=by
 have f3:=FB.ga.bind (.ref x);have hx0:(expr&&onTheHeap (Value.builtin "BaseException.__getattribute__"))=false:=by cases expr<;>rfl
 have hx2:(Value.builtin "BaseException.__getattribute__"==Value.builtin "object.__getattribute__")=false:=by decide +kernel
 have hx1:(onTheHeap (Value.ref C)&&Value.builtin "BaseException.__getattribute__"==Value.builtin "object.__getattribute__")=false:=by rw[hx2];rfl
 unfold getAttr
 repeat (any_goals (first
  |assumption
  | (with_reducible refine wpAny_loadPart_at hx ?_;rw[hcl])
  | (with_reducible refine wpAny_typeLookup_exc hC hN FB.mro FB.ga.lookup ?_;rw[hg1])
  | (with_reducible refine wpAny_typeLookup_exc hC hN FB.mro FB.noGetattr ?_;rw[hg2])
  |wp_step))
 refine codeAny_call_builtin FB.ga.plain F.entry_bexc_ga (wpAny_check_ga_own FB hC .base hx hcl ?_);refine ng FB hC hN hno hB hx hcl hdat hdi hns hv ?_
 repeat (any_goals (first|assumption|wp_step))
end
abbrev AB:List Value:=[.type "Exception",.type "BaseException",.type "object"]
theorem uo {K:W.Frag}{h:Heap}{N:Addr}{m:Str->Option Value}{n:Str}{v:Value}(X:K.In h)(G:h.Ns N m)(e:W.nsIn K N n=some (some v)):m n=some v:=by
 obtain⟨o,es,ep,ho,hd,_,hf⟩:=G;unfold W.nsIn at e;split at e
 ·rename_i q
  have z:=X _ _ q;rw[ho]at z;cases z;cases hd;split at e
  ·rename_i y he
   rw[<-hf];unfold nsFind findBy;rw[<-Array.find?_toList,he];simpa using e
  ·split at e<;>simp at e
 ·cases e
def qW (K:W.Frag)(C fI:Addr)(names:List Str):Bool:=match K.lookup C with
 |some ⟨.type "type",_,.cls cd,sl⟩=>(match cd.mro,sl.toList with
  |.ref C'::bm,[_,_,_,_,some (.builtin n),_]=>C'==C&&n=="Exception.__new__"&&!cd.hasDel&&cd.hasDict&&bm==AB&&W.nsOkIn K cd.ns&&W.nsIn K cd.ns "__init__"==some (some (.ref fI))&&names.all λx=>W.nsIn K cd.ns x==some none
  |_,_=>false)
 |_=>false
def GV (h:Heap)(C fI:Addr)(names:List Str):Prop:=∃ cn cq Nc cb csn csub cab ccol cdd p0 p1 p2 p3 p5 mC,h.get? C=some (excClassObj cn cq C Nc cb AB true csn csub cab ccol cdd p0 p1 p2 p3 p5 "Exception.__new__")/\h.Ns Nc mC/\mC "__init__"=some (.ref fI)/\∀ n∈names,mC n=none
theorem ei {K:W.Frag}{h:Heap}{C fI:Addr}{names:List Str}(X:K.In h)(q:qW K C fI names=true):GV h C fI names:=by
 unfold qW at q;split at q
 ·rename_i dd cd sl ho
  split at q
  ·rename_i C' bm k0 k1 k2 k3 n k5 hm hs
   simp only[Bool.and_eq_true,beq_iff_eq,Bool.not_eq_true',List.all_eq_true]at q;obtain⟨⟨⟨⟨⟨⟨⟨rfl,rfl⟩,hdel⟩,hdi⟩,rfl⟩,hok⟩,hin⟩,hno⟩:=q;obtain⟨nm,bs,mro,ns,qn,hd,sn,sub,ab,col,del⟩:=cd;dsimp only at hm hdel hok hin hno hdi;subst hm hdel hdi;have hsl:sl=#[k0,k1,k2,k3,some (.builtin "Exception.__new__"),k5]:=by
    obtain⟨l⟩:=sl;simp only at hs;rw[hs]
   subst hsl;have G:h.Ns ns (h.nsMap ns):=.of_isNs (W.isNs_of_in X hok);exact⟨nm,qn,ns,bs,sn,sub,ab,col,dd,k0,k1,k2,k3,k5,_,X _ _ ho,G,uo X G hin,λm hm=>W.nsMap_none_of_in X hok (hno m hm)⟩
  ·cases q
 ·cases q
def mV (x C:Addr)(od:Option Addr):HO:=.ext λh=>∃ vs,h.get? x=some ⟨.ref C,od,.fields vs,#[]⟩/\vs[1]?=some .none
def tj (d:Addr)(fs:List (Str×V)):HO:=.ext λh=>∃ mA,h.Ns1 d mA/\(∀ f,ax (fs.lookup f) (mA f))/\PySem.Within mA (fs.map (·.1))
theorem vj {P:Program}{w:World}{H:Hp}{h:Heap}{x C:Addr}{od:Option Addr}{vs:Array Value}(e:h.get? x=some ⟨.ref C,od,.fields vs,#[]⟩)(h1:vs[1]?=some .none):y3 P w H h x (mV x C od) :=
 ⟨⟨vs,e,h1⟩,⟨_,e⟩,λ_ _ ⟨ws,q,q1⟩ k=>⟨ws,k _ q,q1⟩⟩
theorem Bw {P:Program}{w:World}{H:Hp}{h:Heap}{d:Addr}{fs:List (Str×V)}{mA:Str->Option Value}(n:h.Ns1 d mA)(r:∀ f,ax (fs.lookup f) (mA f))(wi:PySem.Within mA (fs.map (·.1))):y3 P w H h d (tj d fs):=by
 refine⟨⟨mA,n,r,wi⟩,let⟨o,_,_,e,_⟩:=n;⟨o,e⟩,λh1 h2 ⟨mB,n',r',w'⟩ k=>⟨mB,?_,r',w'⟩⟩;obtain⟨o,es,ep,e,z⟩:=n';exact⟨o,es,ep,k o e,z⟩
def del (H:Hp)(a:Addr):Hp:=λb=>if b=a then none else H b
theorem jy {H:Hp}{a:Addr}:del H a a=none:=if_pos rfl
theorem mF {H:Hp}{a b:Addr}(h:b≠a):del H a b=H b:=if_neg h
section
variable {X:Cx}{pins:List (Addr×Obj)}{σ:St}{H:Hp}{s:Shared}{a C:Addr}
theorem j7.forget {o:HO}(I:j7 X pins σ H s)(e:H a=some o)(hm:(∀ xs,o≠.tup xs)/\(∀ b u,o≠.frz b u)/\(∀ ps,o≠.tbl ps)/\∀ y,o≠.own y):j7 X pins σ (del H a) s:=by
 have ne:∀ b,H b=none->del H a b=none:=λb q=>by
  by_cases z:b=a
  ·rw[z];exact jy
  ·rw[mF z];exact q
 have kp:∀ b u,H b=some u->b≠a->del H a b=some u:=λb u q z=>by rw[mF z];exact q
 have nt:∀ b xs,H b=some (.tup xs)->b≠a:=λb xs q z=>by rw[z,e]at q;exact hm.1 xs (Option.some.inj q)
 have nf:∀ b o' u,H b=some (.frz o' u)->b≠a:=λb o' u q z=>by rw[z,e]at q;exact hm.2.1 o' u (Option.some.inj q)
 have nb:∀ b ps,H b=some (.tbl ps)->b≠a:=λb ps q z=>by rw[z,e]at q;exact hm.2.2.1 ps (Option.some.inj q)
 have no:∀ b y,H b=some (.own y)->b≠a:=λb y q z=>by rw[z,e]at q;exact hm.2.2.2 y (Option.some.inj q)
 refine⟨I.ok,I.os,I.bare,⟨λb o' q n hb hx=>I.base.keep b o' q n hb hx,λb o' q n hb hx=>I.base.slot b o' q n hb hx,λb o' q n hx=>ne b (I.base.free b o' q n hx),I.base.there,λb xs q=>kp b _ (I.base.tups b xs q) (nt b xs (I.base.tups b xs q)),
  λb o' u q=>kp b _ (I.base.frzs b o' u q) (nf b o' u (I.base.frzs b o' u q)),λb ps q=>let⟨m,z⟩:=I.base.tbls b ps q;⟨m,kp b _ z (nb b _ z)⟩⟩,I.loc,I.cell,ne _ I.free,λx c q=>ne _ (I.freeC x c q),λp hp=>let⟨q1,q2,q3⟩:=I.pin p hp;⟨q1,ne _ q2,q3⟩,λb u q=>?_,I.len⟩
 by_cases z:b=a
 ·rw[z,jy]at q;cases q
 ·rw[mF z]at q;exact(I.hok b u q).stay (λ_ _ _ q'=>q') (λc q'=>kp c _ q' (no c b q')) λc xs q'=>kp c _ q' (nt c xs q')
structure mP (K:W.Frag)(C fI:Addr)(names:List Str):Prop where
 ini:qW K C fI names=true
 sa:("__setattr__" : Str)∈names
 ga:("__getattribute__" : Str)∈names
 gt:("__getattr__" : Str)∈names
 fn:W.isFn K (.ref fI)=true
theorem tQ {A:Around}{E:Value->Shared->Prop}{fI:Addr}{names:List Str}{od:Option Addr}{fs:List (Str×V)}{f:Str}{y:V}{u:Value}{Q:Unit->Shared->Prop}(I:j7 X pins σ H s)(e:H a=some (mV a C od))
  (hd:(od=none/\fs=[])\/∃ d,od=some d/\d≠a/\H d=some (tj d fs)) (c:mP X.K C fI names) (hf:f∈names) (hB:typeLookup (.type "Exception") f=pure none) (hl:fs.length<1000) (ry:A0 y u)
  (h:∀ s' d,((od=none/\H d=none)\/od=some d)->d≠a->j7 X pins σ (i8 (i8 H d (tj d (C3 f y fs))) a (mV a C (some d))) s'->Q () s'):wpAny (model X.prog X.w) A (setAttr (.ref a) f u) Q E s:=by
 obtain⟨cn,cq,Nc,cb,csn,csub,cab,ccol,cdd,p0,p1,p2,p3,p5,mC,hC,hN,_,hno⟩:=ei I.kIn c.ini;obtain⟨⟨vs,hx,hv1⟩,_,_⟩:=(show y3 X.prog X.w H s.heap a (mV a C od) from I.hok a _ e);obtain⟨mA,hdi,hr,hwi⟩:∃ mA:Str->Option Value,((od=none/\mA=λ_=>none)\/∃ dx,od=some dx/\dx≠a/\s.heap.Ns1 dx mA)/\(∀ g,ax (fs.lookup g) (mA g))/\PySem.Within mA (fs.map (·.1)):=by
  rcases hd with⟨z1,z2⟩|⟨d,z1,z2,z3⟩
  ·subst z2;exact⟨λ_=>none,.inl ⟨z1,rfl⟩,λ_=>True.intro,λg hg=>absurd rfl hg⟩
  ·obtain⟨⟨mA,n,r,wi⟩,_,_⟩:=(show y3 X.prog X.w H s.heap d (tj d fs) from I.hok d _ z3);exact⟨mA,.inr ⟨d,z1,z2,n⟩,r,wi⟩
 obtain⟨hh,gg,dd,tt,oo⟩:=s;refine Bv (nms:=fs.map (·.1)) PySem.F.store_Exception hC hN (hno _ c.sa) (hno _ hf) hB hx rfl ⟨vs,rfl⟩ hdi hwi (by rw[List.length_map,sizeLine_eq];omega) λh2 t2 dx e1 e2 e3 e4 e5=>?_;have e1':(od=none/\H dx=none)\/od=some dx:=by
  rcases e1 with z|⟨z,z2⟩
  ·exact .inr z
  ·refine .inl ⟨z,I.hok.fresh ?_⟩;rw[z2];exact Nat.le_refl _
 refine h _ dx e1' e2 ?_;have dOk:∀ H':Hp,y3 X.prog X.w H' h2 dx (tj dx (C3 f y fs)):=λH'=>by
  refine Bw e3 (λg=>?_) λg hg=>?_
  ·rw[cz];by_cases q:g=f
   ·rw[if_pos q,if_pos q];exact ry
   ·rw[if_neg q,if_neg q];exact hr g
  ·by_cases q:g=f
   ·rw[q];exact(af f y fs).1
   ·refine(af f y fs).2 g (hwi g λz=>hg ?_);show(if g=f then some u else mA g)=none;rw[if_neg q];exact z
 have aOk:∀ H':Hp,y3 X.prog X.w H' h2 a (mV a C (some dx)):=λH'=>vj (vs:=vs) e4 hv1;have tr:∀ b q,H b=some q->b≠a->b≠dx->y3 X.prog X.w (i8 (i8 H dx (tj dx (C3 f y fs))) a (mV a C (some dx))) h2 b q:=λb q z za zd=>by
  have dT:∀ xs,H dx≠some (.tup xs):=λxs w=>by
   rcases e1' with⟨_,k⟩|k
   ·rw[k]at w;cases w
   ·rcases hd with⟨k2,_⟩|⟨d,k2,_,k3⟩
    ·rw[k]at k2;cases k2
    ·rw[k]at k2;cases k2;rw[k3]at w;cases w
  have dO:∀ y',H dx≠some (.own y'):=λy' w=>by
   rcases e1' with⟨_,k⟩|k
   ·rw[k]at w;cases w
   ·rcases hd with⟨k2,_⟩|⟨d,k2,_,k3⟩
    ·rw[k]at k2;cases k2
    ·rw[k]at k2;cases k2;rw[k3]at w;cases w
  have nA:∀ c' q',H c'=some q'->(∀ ψ,q'≠.ext ψ)->c'≠a:=λc' q' w k z'=>by
   rw[z',e]at w;exact k _ (Option.some.inj w).symm
  refine(I.hok b q z).stay (λc' v' hc' q'=>e5 c' v' ?_ ?_ q') (λc' w=>?_) λc' xs w=>?_
  ·rcases hc' with k|k
   ·rw[k];exact za
   ·exact nA c' _ k (by intro ψ w;cases w)
  ·rcases hc' with k|k
   ·rw[k];exact zd
   ·intro w;rw[w]at k;exact dO _ k
  ·rw[i0 (nA c' _ w (by intro ψ k;cases k)),i0 (by intro k;rw[k]at w;exact dO _ w)];exact w
  ·rw[i0 (nA c' _ w (by intro ψ k;cases k)),i0 (by intro k;rw[k]at w;exact dT _ w)];exact w
 have hok:ay X.prog X.w (i8 (i8 H dx (tj dx (C3 f y fs))) a (mV a C (some dx))) h2:=λb q z=>by
  by_cases hb:b=a
  ·subst hb;rw[c9]at z;cases z;exact aOk _
  ·rw[i0 hb]at z;by_cases hb2:b=dx
   ·subst hb2;rw[c9]at z;cases z;exact dOk _
   ·rw[i0 hb2]at z;exact tr b q z hb hb2
 have ga:∀ b u',hh.get? b=some u'->∃ o',h2.get? b=some o':=λb u' z=>by
  by_cases hb:b=a
  ·subst hb;exact⟨_,e4⟩
  ·by_cases hb2:b=dx
   ·subst hb2;obtain⟨o,_,_,z',_⟩:=e3;exact⟨o,z'⟩
   ·exact⟨u',e5 b u' hb hb2 z⟩
 have nd:∀ b u',hh.get? b=some u'->H b=none->b≠a/\b≠dx:=λb u' z n=>by
  refine⟨λk=>(by rw[k,e]at n;cases n),λk=>?_⟩;rcases e1 with k1|⟨_,k2⟩
  ·rcases hd with⟨k3,_⟩|⟨d,k3,_,k4⟩
   ·have k1:od=some dx:=k1;rw[k3]at k1;cases k1
   ·have k1:od=some dx:=k1;rw[k3]at k1;cases k1;rw[k,k4]at n;cases n
  ·have:=Heap.lt_size z;rw[k,k2]at this;exact absurd this (Nat.lt_irrefl _)
 refine j7.un (s:=⟨hh,gg,dd,tt,oo⟩) (h':=h2) (t':=t2) I ⟨λb o q n _ _=>e5 b o (nd b o q n).1 (nd b o q n).2 q,λb o q n _ _=>⟨o.slots,e5 b o (nd b o q n).1 (nd b o q n).2 q⟩,λb o q n _=>by rw[i0 (nd b o q n).1,i0 (nd b o q n).2];exact n,λb o q _=>ga b o q,λb xs q=>?_,λb o u q=>?_,λb ps q=>⟨#[],?_⟩⟩ hok
 all_goals
  have hba:b≠a:=by intro k;rw[k,e]at q;cases q
  have hbd:b≠dx:=by
   intro k;rcases e1' with⟨_,k1⟩|k1
   ·rw[k,k1]at q;cases q
   ·rcases hd with⟨k3,_⟩|⟨d,k3,_,k4⟩
    ·rw[k3]at k1;cases k1
    ·rw[k3]at k1;cases k1;rw[k,k4]at q;cases q
  rw[i0 hba,i0 hbd,q]
 simp
end
section
variable {X:Cx}{pins:List (Addr×Obj)}{σ:St}{H:Hp}{s:Shared}{a C:Addr}{h':Heap}
theorem j7.laidF {o:HO}{t':Nat}(I:j7 X pins σ H s)(k:∀ b u,s.heap.get? b=some u->h'.get? b=some u)(hn:s.heap.get? a=none)(new:y3 X.prog X.w (i8 H a o) h' a o):j7 X pins σ (i8 H a o) { s with heap:=h',toks:=t' }:=by
 have fr:H a=none:=by
  cases z:H a with
  |none=>rfl
  |some u=>exact(y3.gone (I.hok a u z) hn).elim
 have ne:∀ b u,s.heap.get? b=some u->b≠a:=λb u q z=>by rw[z,hn]at q;cases q
 refine I.un ⟨λb u q _ _ _=>k b u q,λb u q _ _ _=>⟨u.slots,k b u q⟩,λb u q n _=>by rw[i0 (ne b u q)];exact n,λb u q _=>⟨u,k b u q⟩,λb xs q=>by rw[i0 (j3 q fr)];exact q,λb u xs q=>by rw[i0 (j3 q fr)];exact q,λb ps q=>⟨#[],by rw[i0 (j3 q fr),q];simp⟩⟩ λb u e=>?_;by_cases hb:b=a
 ·subst hb;rw[c9]at e;cases e;exact new
 ·rw[i0 hb]at e;exact(I.hok b u e).stay (λc v _ q=>k c v q) (λc q=>by rw[i0 (j3 q fr)];exact q) λc xs q=>by rw[i0 (j3 q fr)];exact q
theorem Ad {K:W.Frag}{h:Heap}{f:Addr}(KX:K.In h)(e:W.isFn K (.ref f)=true):∃ o,h.get? f=some o/\o.cls=.type "function":=by
 have q:W.typeIn K (.ref f)=some (.type "function"):=beq_iff_eq.mp e;unfold W.typeIn at q;simp only at q;cases z:K.lookup f with
 |none=>rw[z]at q;simp at q
 |some o =>
  rw[z]at q;refine⟨o,KX _ _ z,?_⟩;simpa using q
theorem tU {k:Nat}{fI:Addr}{fd:FuncData}{ps names:List Str}{sp:Sp}{E:XK}{us:List Value}{vs:List V}{R:Addr->Option Addr->Hp->Prop}(c:mP X.K C fI names)(F:o8 X.prog X.w X.K X.mg X.base (A7 X.prog X.w) k fI fd ps sp)(hr:F9 (k+1) X.A)(hb:V1 X.K fd ps [])
  (hx:F6 (A7 X.prog X.w) X E) (I:j7 X pins σ H s) (r:x9 vs us) (hlen:us.length<=sizeLine)
  (h:∀ x,H x=none->sp (.ref x::vs) (i8 H x (mV x C none)) (λv H2=>v=.non/\∃ od,H2 x=some (mV x C od)/\R x od H2) E) :
  wpAny (model X.prog X.w) X.A (call (.ref C) us) (λu s'=>∃ x od H2,u=.ref x/\j7 X pins σ H2 s'/\s.heap.get? x=none/\(∀ b o,s.heap.get? b=some o->∃ o',s'.heap.get? b=some o')/\H2 x=some (mV x C od)/\R x od H2) X.xe s:=by
 obtain⟨cn,cq,Nc,cb,csn,csub,cab,ccol,cdd,p0,p1,p2,p3,p5,mC,hC,hN,hin,hno⟩:=ei I.kIn c.ini;obtain⟨oI,hfI,hfc⟩:=Ad I.kIn c.fn;obtain⟨hh,gg,dd,tt,oo⟩:=s;refine wpAny_call_exc_init PySem.F.excBase_Exception hC hN hin hfI hfc (λh2 x m=>?_) hlen;have fr:H x=none:=by
  cases z:H x with
  |none=>rfl
  |some u=>exact(y3.gone (I.hok x u z) m.new).elim
 obtain⟨t,m1,_,_⟩:=m.there;have I2:=j7.laidF (s:=⟨hh,gg,dd,tt,oo⟩) (a:=x) (o:=mV x C none) (t':=tt) I m.keeps m.new (vj (vs:=#[.ref t,.none,.none,.none,.bool false,.none]) m1 rfl);have r2:x9 (V.ref x::vs) (Value.ref x::us):=.cons rfl r;have hq:=h x fr;have hl:(Value.ref x::us++[]).length=ps.length:=by
  have e:=r2.length;rw[F.len _ _ _ _ hq]at e;rw[List.append_nil];exact e.symm
 have hbb:=hb { heap:=h2,gens:=gg,drawn:=dd,toks:=tt,os:=oo } (Value.ref x::us) I2.kIn hl;rw[List.append_nil]at hbb;refine wpAny_call (codeAny_mono (F.run _ X.stack { heap:=h2,gens:=gg,drawn:=dd,toks:=tt,os:=oo } _ ⟨Value.ref x::us,[]⟩ (Value.ref x::us) _ _ E (hr.make C us []) (I2.env0.make C us []) hbb r2 hq) λres s' hq'=>?_);cases res with
 |error e=>exact hx pins σ _ _ e s' I2 hq'
 |ok fl =>
  cases fl with
  |next=>exact False.elim hq'
  |brk=>exact False.elim hq'
  |cont=>exact False.elim hq'
  |ret u =>
   have th:∀ b o,hh.get? b=some o->∃ o',s'.heap.get? b=some o':=λb o q=>by
    obtain⟨_,_,_,_,un,_⟩:=hq';exact un.there b o (m.keeps b o q) (by simp)
   obtain⟨v,H3,I3,rv,ev,od,q1,q2⟩:=I2.after hq';subst ev;exact⟨show u=.none from rv,x,od,H3,rfl,I3,m.new,th,q1,q2⟩
theorem nE {M:Model}{A:Around}{E:Value->Shared->Prop}{env:Env}{v:Sem Value}{Q:Flow->Shared->Prop}{s:Shared}(hh:A.handled=none)
  (h:wpAny M A v (λu s1=>∃ x od vs fI,u=.ref x/\(∃ names,GV s1.heap C fI names)/\s1.heap.get? x=some ⟨.ref C,od,.fields vs,#[]⟩/\vs[1]?=some .none/\E (.ref x) s1) E s) :
  wpAny M A (raiseStmt env (some v) none) Q E s:=by
 unfold raiseStmt;refine wpAny_bind (wpAny_mono h (λu s1 h1=>?_) λ_ _ z=>z);obtain⟨x,od,vs,fI,rfl,⟨names,cn,cq,Nc,cb,csn,csub,cab,ccol,cdd,p0,p1,p2,p3,p5,mC,hC,hN,hin,hno⟩,hx,hv1,hE⟩:=h1;obtain⟨h2,g,d,tk,os⟩:=s1;have hcB:(Value.ref C::AB).contains (.type "BaseException")=true:=by rw[List.contains_cons];rfl
 repeat (first
  |with_reducible refine wpAny_loadPart_at hx ?_
  |with_reducible refine wpAny_loadPart_at hC ?_
  |with_reducible refine wpAny_field hx rfl hv1 ?_
  | (with_reducible refine wpAny_isSubtype_exc hC ?_;rw[hcB])
  |wp_step)
 exact wpAny_raiseNew_none hh hE
end
section
variable {X:Cx}{E:XK}{c f:Str}{C fI:Addr}{fd:FuncData}{ps names:List Str}{sp:Sp}{k:Nat}{np cpos pos pos':Pos}{e o value:Expr}{es:List Expr}{t:TA}{ta tv:TE}
def yJ (C:Addr)(sp:Sp)(E:XK)(t:TA):TS:=λ_ σ H=>t σ H λvs H1=>vs.length<=sizeLine/\∀ x,H1 x=none->sp (.ref x::vs) (i8 H1 x (mV x C none)) (λv H2=>v=.non/\∃ od,H2 x=some (mV x C od)/\E (.ref C) od (del H2 x)) E
theorem tY (ht:AF X E)(hex:X.ex=[])(hc:X.calm=true)(hg:Gl X c)(hm:X.mg c=some (.ref C))(hk:W.keepIn X.K (.ref C)=true)(xc:mP X.K C fI names)(F:o8 X.prog X.w X.K X.mg X.base (A7 X.prog X.w) k fI fd ps sp)(hr:F9 (k+1) X.A)(hb:V1 X.K fd ps [])
  (ha:PA X (e::es) t) (hd:(c==("__debug__" : Str))=false:=by decide) (he:starEach (e::es) X.env=(false,eval e X.env)::starEach es X.env:=by rfl) (hpl:(backTo cpos (starEach es X.env)).any (·.1)=false:=by rfl) :
  PS X (.Raise (some (.Call (.Name c np) (e::es) [] cpos)) none pos) (yJ C sp E t):=by
 intro pins s σ H D I hq;rw[arm_exec_Raise];refine wpAny_bind (wpAny_standAt (nE (C:=C) (I.ok.hd hc) ?_));have core:wpAny (model X.prog X.w) X.A (eval (.Call (.Name c np) (e::es) [] cpos) X.env) (λu s1=>∃ x od vs fI,u=.ref x/\(∃ names,GV s1.heap C fI names)/\s1.heap.get? x=some ⟨.ref C,od,.fields vs,#[]⟩/\vs[1]?=some .none/\X.xe (.ref x) s1) X.xe s:=by
  refine wpAny_Call_Name_kw (cV I hg hm ?_ hd);refine W.callWith_K (h₀:=X.base) I.ok.mod.kin hk (B9 (ha cpos pins s σ H _ I hq) λus s1 ⟨vs,H1,I1,r,hz,q⟩=>⟨I1.kIn,?_⟩) he hpl;refine B9 (tU (R:=λx od H2=>E (.ref C) od (del H2 x)) xc F hr hb ht.pass I1 r (by show us.length<=sizeLine;rw[<-r.length];exact hz) q) λu s2 ⟨x,od,H2,e1,I2,nx,th,q1,q2⟩=>?_;obtain⟨⟨vs',hx,hv⟩,_,_⟩:=(show y3 X.prog X.w H2 s2.heap x (mV x C od) from I2.hok x _ q1);have I3:j7 X pins σ (del H2 x) s2:=I2.forget q1 ⟨(λ_ z=>nomatch z),(λ_ _ z=>nomatch z),(λ_ z=>nomatch z),(λ_ z=>nomatch z)⟩;refine⟨x,od,vs',fI,e1,⟨names,ei I2.kIn xc.ini⟩,hx,hv,ht pins σ H1 s1 σ (del H2 x) s2 x (.ref C) od I1 I3 th ⟨jy,nx,_,vs',hx,rfl,rfl,rfl,.inl hv⟩ q2⟩
 first
  |exact wpAny_bind (B9 core λv s3 h3=>wpAny_bind (wpAny_standAt (wpAny_pure h3)))
  | (simp only[evalOpt,Option.map];exact wpAny_bind (B9 core λv s3 h3=>wpAny_bind (wpAny_standAt (wpAny_pure h3))))
def Fj (C:Addr)(ta tv:TE)(f:Str):TS:=λD σ H=>tv σ H λy H1=>ta σ H1 λx H2=>∃ a od fs,x=.ref a/\H2 a=some (mV a C od)/\((od=none/\fs=[])\/∃ d,od=some d/\d≠a/\H2 d=some (tj d fs))/\fs.length<1000 /\
 ∀ d,((od=none/\H2 d=none)\/od=some d)->d≠a->D.nx σ (i8 (i8 H2 d (tj d (C3 f y fs))) a (mV a C (some d)))
theorem rM (xc:mP X.K C fI names)(hf:f∈names)(hB:typeLookup (.type "Exception") f=pure none)(ha:PE X o ta)(hv:PE X value tv)(hs:swapsWith value (some (.Attribute o f pos')) pos.line X.env=pure false):PS X (.Assign [.Attribute o f pos'] value pos) (Fj C ta tv f):=by
 intro pins s σ H D I h;refine plainObj_wpAny_Assign_Attribute (B9 (hv pins s σ H _ I h) λu s1 ⟨y,H1,I1,ry,q⟩=>B9 (ha pins s1 σ H1 _ I1 q) λov s2 ⟨x,H2,I2,rx,a,od,fs,ex,ea,hd,l,q2⟩=>?_) hs;subst ex;obtain rfl:ov=Value.ref a:=rx;exact tQ I2 ea hd xc hf hB l ry λs3 d e1 e2 I3=>⟨σ,_,I3,q2 d e1 e2⟩
end
def fC (K:W.Frag)(C:Addr):Bool:=match K.lookup C with
 |some ⟨.type "type",_,.cls cd,sl⟩=>(match cd.mro,sl.toList with
  |.ref C'::bm,[_,_,_,_,some (.builtin n),_]=>C'==C&&n=="Exception.__new__"&&!cd.hasDel&&bm==AB
  |_,_=>false)
 |_=>false
theorem qV {K:W.Frag}{h:Heap}{C:Addr}(X:K.In h)(q:fC K C=true):∃ cn cq Nc cb hd csn csub cab ccol cdd p0 p1 p2 p3 p5,h.get? C=some (excClassObj cn cq C Nc cb AB hd csn csub cab ccol cdd p0 p1 p2 p3 p5 "Exception.__new__"):=by
 unfold fC at q;split at q
 ·rename_i dd cd sl ho
  split at q
  ·rename_i C' bm k0 k1 k2 k3 n k5 hm hs
   simp only[Bool.and_eq_true,beq_iff_eq,Bool.not_eq_true']at q;obtain⟨⟨⟨rfl,rfl⟩,hdel⟩,rfl⟩:=q;obtain⟨nm,bs,mro,ns,qn,hd,sn,sub,ab,col,del⟩:=cd;dsimp only at hm hdel;subst hm hdel;have hsl:sl=#[k0,k1,k2,k3,some (.builtin "Exception.__new__"),k5]:=by
    obtain⟨l⟩:=sl;simp only at hs;rw[hs]
   subst hsl;exact⟨nm,qn,ns,bs,hd,sn,sub,ab,col,dd,k0,k1,k2,k3,k5,X _ _ ho⟩
  ·cases q
 ·cases q
section
variable {M:Model}{A:Around}{E:Value->Shared->Prop}{h:Heap}{g:Array GenState}{d:Drawn}{t:Nat}{os:OsState}{x C D:Addr}{oe:Obj}{Q:Bool->Shared->Prop}
variable {cn cq:Str}{Nc:Addr}{cb:List Value}{hd:Bool}{csn:List Str}{csub:List Value}{cab:Bool}{ccol:Option Bool}{cdd:Option Addr}{p0 p1 p2 p3 p5:Option Value}{idn:String}
variable {dn dq:Str}{Nd:Addr}{db:List Value}{hd':Bool}{dsn:List Str}{dsub:List Value}{dab:Bool}{dcol:Option Bool}{ddd:Option Addr}{r0 r1 r2 r3 r5:Option Value}{idd:String}
theorem ur (hC:h.get? C=some (excClassObj cn cq C Nc cb AB hd csn csub cab ccol cdd p0 p1 p2 p3 p5 idn))(hD:h.get? D=some (excClassObj dn dq D Nd db AB hd' dsn dsub dab dcol ddd r0 r1 r2 r3 r5 idd))
  (hx:h.get? x=some oe) (hcl:oe.cls=.ref C) (hq:Q (decide (C=D)) ⟨h,g,d,t,os⟩):wpAny M A (excMatches (.ref x) (.ref D)) Q E ⟨h,g,d,t,os⟩:=by
 have hcB:(Value.ref D::AB).contains (.type "BaseException")=true:=by rw[List.contains_cons];rfl
 have hcC:(Value.ref C::AB).contains (.ref D)=decide (C=D):=by
  by_cases e:C=D
  ·subst e;simp
  ·rw[decide_eq_false e,List.contains_cons];have:(Value.ref D==Value.ref C)=false:=by
    rw[beq_eq_false_iff_ne];intro z;exact e (Value.ref.inj z).symm
   rw[this];rfl
 have f:=tc_notTuple;unfold excMatches
 repeat (first
  | (with_reducible refine wpAny_loadPart_at hx ?_;rw[hcl])
  | (with_reducible refine wpAny_isSubtype_exc hD ?_;rw[hcB])
  | (with_reducible refine wpAny_isSubtype_exc hC ?_;rw[hcC])
  |with_reducible refine wpAny_loadPart_at hD ?_
  |wp_step)
 all_goals first
  |exact hq
  | (cases z:decide (C=D)<;>(rw[z]at hq;wp_walk;exact hq))
end
section
variable {X:Cx}{pins:List (Addr×Obj)}{σ σ₁:St}{H H₁:Hp}{s s₁:Shared}
theorem pd {M:Model}{A:Around}{E':Value->Shared->Prop}{x:Addr}{cls:Value}{od:Option Addr}{Q:Unit->Shared->Prop}(hex:X.ex=[])(I₁:j7 X pins σ₁ H₁ s₁)(I:j7 X pins σ H s)(ks:∀ b o,s₁.heap.get? b=some o->∃ o',s.heap.get? b=some o')(f:qR s₁.heap H s.heap x cls od)
  (h:∀ h',j7 X pins σ H { s with heap:=h' }->qR s₁.heap H h' x cls od->(∀ b o,s₁.heap.get? b=some o->∃ o',h'.get? b=some o')->Q () { s with heap:=h' }):wpAny M A (setFlight (.ref x) none) Q E' s:=by
 obtain⟨oe,vs,he,hc,hdd,hd,tb⟩:=id f.obj;rcases tb with h1|⟨T,oT,ts,h1,hTe,hT,hdT,hsz,_,_⟩
 ·unfold setFlight;refine wpAny_bind (wpAny_field he hd h1 ?_);rw[if_neg (by decide)];exact wpAny_pure (h s.heap I f ks)
 ·refine sF (fs:=[]) he hd h1 hTe hT hdT hsz λh' N=>?_;obtain⟨I',f'⟩:=cY (λb hb=>absurd hb (by simp)) hex I₁ I f he hd h1 N ks;exact h h' I' f' λb o q=>let⟨o',q'⟩:=ks b o q;N.there b o' q'
abbrev Cx.hnd (X:Cx)(x:Addr)(pn:List (Addr×Obj)):Cx:={ X with A:=X.A.mark (some (.ref x)),calm:=false,pn:=pn++X.pn,xe:=λ_ _=>False }
theorem Cx.Ok.hnd {x:Addr}{pn:List (Addr×Obj)}(ok:X.Ok):(X.hnd x pn).Ok:=⟨ok.mod,ok.kind,ok.glob,ok.blt,ok.above,ok.inj,ok.has,ok.cab,(λz=>Bool.noConfusion z),ok.frames,ok.stk,ok.exf,ok.bs,ok.bsz,ok.noex,ok.exfs,ok.funs,ok.frf⟩
theorem j7.hnd {x:Addr}{pn:List (Addr×Obj)}(I:j7 X pins σ H s)(h:∀ p∈pn,s.heap.get? p.1=some p.2/\H p.1=none/\p.1≠X.env.locals/\p.1∉X.fs/\∀ v,p.2.data≠.cell v):j7 (X.hnd x pn) pins σ H s :=
 ⟨I.ok.hnd,I.os,I.bare,I.base,I.loc,I.cell,I.free,I.freeC,λp hp=>by
  have hp:p∈(pn++X.pn)++pins:=hp;rw[List.append_assoc]at hp;rcases List.mem_append.mp hp with q|q
  ·exact h p q
  ·exact I.pin p q,I.hok,I.len⟩
theorem j7.unhnd {x:Addr}{pn:List (Addr×Obj)}(ok:X.Ok)(I:j7 (X.hnd x pn) pins σ H s):j7 X pins σ H s :=
 ⟨ok,I.os,I.bare,I.base,I.loc,I.cell,I.free,I.freeC,λp hp=>I.pin p (by
  show p∈(pn++X.pn)++pins;rw[List.append_assoc];exact List.mem_append_right _ hp),I.hok,I.len⟩
abbrev uV (Q:VK):jS:={ nx:=λ_ _=>False,rt:=Q }
def cH (X:Cx)(hs:List ExceptHandler)(R:VK->XK):Prop:=∀ (pins:List (Addr×Obj)) (σ₁:St) (H₁:Hp) (s₁:Shared) (σ:St) (H:Hp) (s:Shared) (x C:Addr) (od:Option Addr) (Q:VK),j7 X pins σ₁ H₁ s₁->j7 X pins σ H s ->
 (∀ b o,s₁.heap.get? b=some o->∃ o',s.heap.get? b=some o')->qR s₁.heap H s.heap x (.ref C) od->fC X.K C=true->R Q (.ref C) od H->wpAny (model X.prog X.w) X.A (handleBy (.ref x) X.env hs) (SP X pins (uV Q)) X.xe s
theorem xX:cH X [] (λ_ _ _ _=>False):=λ_ _ _ _ _ _ _ _ _ _ _ _ _ _ _ _ h=>h.elim
theorem kL {c:Str}{D:Addr}{np pos:Pos}{name:Option Str}{body:List Stmt}{rest:List ExceptHandler}{R Rh:VK->XK}(hex:X.ex=[])(hg:Gl X c)(hm:X.mg c=some (.ref D))(xd:fC X.K D=true)(hrest:cH X rest R)
  (hsuite:∀ (pins:List (Addr×Obj)) (σ₁:St) (H₁:Hp) (s₁:Shared) (σ:St) (H:Hp) (s:Shared) (x:Addr) (od:Option Addr) (Q:VK),j7 X pins σ₁ H₁ s₁->j7 X pins σ H s ->
   (∀ b o,s₁.heap.get? b=some o->∃ o',s.heap.get? b=some o')->qR s₁.heap H s.heap x (.ref D) od->Rh Q (.ref D) od H ->
   codeAny (model X.prog X.w) (X.A.mark (some (.ref x))) (.handlers (.ref x) [.ExceptHandler none name body pos] X.env) (λr s₂=>match r with
     |.ok f=>(match name with
      |none=>SP X pins (uV Q) f s₂
      |some n=>wpAny (model X.prog X.w) X.A (do bindName X.env n .none;unbindBehindTheSuite X.env n pos) (λ_ s₃=>SP X pins (uV Q) f s₃) X.xe s₂)
     |.error e=>cameBackBy (model X.prog X.w) X.A X.env X.xe e s₂) s)
  (hd:(c==("__debug__" : Str))=false:=by decide) :
  cH X (.ExceptHandler (some (.Name c np)) name body pos::rest) (λQ cls od H=>if cls=.ref D then Rh Q cls od H else R Q cls od H):=by
 intro pins σ₁ H₁ s₁ σ H s x C od Q I₁ I ks f xc hR;refine wpAny_handleBy_cons (codeAny_handlers_test ?_) (by intro z;cases z);have I':j7 (X.hnd x []) pins σ H s:=I.hnd λp hp=>absurd hp (by simp);refine cV (X:=X.hnd x []) I' hg hm ?_ hd;obtain⟨oe,vs,he,hc,hdd,hdat,tb⟩:=id f.obj;obtain⟨a1,a2,a3,a4,a5,a6,a7,a8,a9,a10,a11,a12,a13,a14,a15,hC⟩:=qV I.kIn xc;obtain⟨b1,b2,b3,b4,b5,b6,b7,b8,b9,b10,b11,b12,b13,b14,b15,hD⟩:=qV I.kIn xd;obtain⟨hh,gg,dd,tt,oo⟩:=s;refine ur hC hD he hc ?_;by_cases e:C=D
 ·subst e;rw[decide_eq_true rfl,if_pos rfl];rw[if_pos rfl]at hR;exact hsuite pins σ₁ H₁ s₁ σ H _ x od Q I₁ I ks f hR
 ·rw[decide_eq_false e,if_neg (by decide)];rw[if_neg (λz=>e (Value.ref.inj z))]at hR;exact hrest pins σ₁ H₁ s₁ σ H _ x C od Q I₁ I ks f xc hR
theorem bg {c:Str}{D:Addr}{np pos:Pos}{b:Stmt}{suite:List Stmt}{rest:List ExceptHandler}{R:VK->XK}{ts:TS}(hex:X.ex=[])(hg:Gl X c)(hm:X.mg c=some (.ref D))(xd:fC X.K D=true)(hrest:cH X rest R)
  (hs:∀ x,pJ (X.hnd x []) (b::suite) ts) (hd:(c==("__debug__" : Str))=false:=by decide) :
  cH X (.ExceptHandler (some (.Name c np)) none (b::suite) pos::rest) (λQ cls od H=>if cls=.ref D then ∀ σ,ts (uV Q) σ H else R Q cls od H):=by
 refine kL (Rh:=λQ cls od H=>∀ σ,ts (uV Q) σ H) hex hg hm xd hrest (λpins σ₁ H₁ s₁ σ H s x od Q I₁ I ks f hR=>?_) hd;refine codeAny_handlers_suite (pd hex I₁ I ks f λh' I' f' ks'=>?_);refine wpAny_mono (hs x pins _ σ H (uV Q) (I'.hnd λp hp=>absurd hp (by simp)) (hR σ)) (λfl s2 q=>?_) λ_ _ z=>z.elim;cases fl with
 |next=>obtain⟨_,_,_,z⟩:=q;exact z.elim
 |brk=>obtain⟨_,_,_,z⟩:=q;exact z.elim
 |cont=>obtain⟨_,_,_,z⟩:=q;exact z.elim
 |ret u=>obtain⟨v,σ',H',J,r,z⟩:=q;exact⟨v,σ',H',J.unhnd I.ok,r,z⟩
theorem j7.gone {h':Heap}{m':Str->Option Value}{t':Nat}(I:j7 X pins σ H s)(hn:h'.Ns X.env.locals m')(hs:Heap.SameBut X.env.locals s.heap h'):j7 X pins (List.replicate X.N.length none) H { s with heap:=h',toks:=t' }:=by
 obtain⟨m,⟨oL,_,_,hoL,_⟩,_⟩:=id I.loc;refine⟨I.ok,I.os,I.bare,⟨λb o e n hb hx=>?_,λb o e n hb hx=>?_,I.base.free,λb o e hx=>?_,I.base.tups,I.base.frzs,I.base.tbls⟩,⟨m',hn,λj y v e1 e2 e3=>?_⟩,λy c e=>?_,I.free,I.freeC,λp hp=>?_,λb ob e=>?_,List.length_replicate⟩
 ·exact(hs.2 b (Nat.ne_of_lt (Nat.lt_of_lt_of_le (Heap.lt_size e) I.ok.above))).trans (I.base.keep b o e n hb hx)
 ·obtain⟨sl,e1⟩:=I.base.slot b o e n hb hx;exact⟨sl,(hs.2 b (Nat.ne_of_lt (Nat.lt_of_lt_of_le (Heap.lt_size e) I.ok.above))).trans e1⟩
 ·obtain⟨o',e1⟩:=I.base.there b o e hx;exact⟨o',(hs.2 b (Nat.ne_of_lt (Nat.lt_of_lt_of_le (Heap.lt_size e) I.ok.above))).trans e1⟩
 ·rw[List.getElem?_replicate]at e2;split at e2<;>cases e2
 ·obtain⟨w',z⟩:=I.cell y c e;exact⟨w',z.sameBut hs (I.cne y c e)⟩
 ·obtain⟨e,n,ne,nf,d⟩:=I.pin p hp;exact⟨(hs.2 p.1 ne).trans e,n,ne,nf,d⟩
 ·refine(I.hok b ob e).stay (λc w' hc q=>(hs.2 c ?_).trans q) (λ_ q=>q) λ_ _ q=>q;rintro rfl;rcases hc with hc|hc
  ·rw[<-hc,I.free]at e;cases e
  ·rw[I.free]at hc;cases hc
theorem Ai {c n:Str}{D:Addr}{i:Nat}{np pos:Pos}{b:Stmt}{suite:List Stmt}{rest:List ExceptHandler}{R:VK->XK}{ts:Addr->Option Addr->TS}(hex:X.ex=[])(hst:X.stack=X.env::X.outer)(hN:X.N.Nodup)(hi:X.N[i]?=some n)(hl:X.env.scope.names.lookup n=some .local)(hg:Gl X c)(hm:X.mg c=some (.ref D))(xd:fC X.K D=true)(hrest:cH X rest R)
  (hs:∀ x oe vs,oe.cls=.ref D->oe.data=.fields vs->pJ (X.hnd x [(x,oe)]) (b::suite) (ts x oe.dict)) (hd:(c==("__debug__" : Str))=false:=by decide) :
  cH X (.ExceptHandler (some (.Name c np)) (some n) (b::suite) pos::rest) (λQ cls od H=>if cls=.ref D then ∀ σ x,σ[i]?=some (some (.ref x))->ts x od (uV Q) σ H else R Q cls od H):=by
 refine kL (Rh:=λQ cls od H=>∀ σ x,σ[i]?=some (some (.ref x))->ts x od (uV Q) σ H) hex hg hm xd hrest (λpins σ₁ H₁ s₁ σ H s x od Q I₁ I ks f hR=>?_) hd;refine codeAny_handlers_suite_as (pd hex I₁ I ks f λh' I' f' ks'=>?_);have hiσ:i<σ.length:=by rw[I'.len];exact(List.getElem?_eq_some_iff.mp hi).1
 obtain⟨oe,vs,he,hc,hdd,hdat,tb⟩:=id f'.obj;have xa:=I₁.apart hex f'.new;refine cK (v:=V.ref x) (u:=.ref x) I' hN hi (.inl hl) rfl (λs2 I2 ⟨a,sb,ha⟩=>?_) (.inr hl);have hxa:x≠a:=by
  rcases ha with z|z
  ·rw[z];exact xa.2.1
  ·exact λe=>xa.2.2.1 n a z e.symm
 have nfs:x∉X.fs:=λhb=>by
  obtain⟨_,o,ho,_⟩:=I₁.ok.funs.mem hb;rw[xa.1]at ho;cases ho
 have J:j7 (X.hnd x [(x,oe)]) pins (σ.set i (some (.ref x))) H s2:=I2.hnd λp hp=>by
  have:p=(x,oe):=by simpa using hp
  subst this;exact⟨(sb.2 x hxa).trans he,f'.free,xa.2.1,nfs,λv z=>by rw[hdat]at z;cases z⟩
 refine wpAny_mono (hs x oe vs hc hdat pins s2 _ H (uV Q) J (by rw[hdd];exact hR _ x (List.getElem?_set_self hiσ))) (λfl s3 q=>?_) λ_ _ z=>z.elim;cases fl with
 |next=>obtain⟨_,_,_,z⟩:=q;exact z.elim
 |brk=>obtain⟨_,_,_,z⟩:=q;exact z.elim
 |cont=>obtain⟨_,_,_,z⟩:=q;exact z.elim
 |ret u =>
  obtain⟨v,σ',H',J',r,z⟩:=q;have J2:=J'.unhnd I.ok;obtain⟨m,hn,_⟩:=id J2.loc;refine wpAny_nameGoes hl hn (by rw[I.ok.kind];rfl) λh3 m3 n3 s3'=>?_;exact⟨v,_,H',J2.gone n3 s3',r,z⟩
abbrev Cx.tryb (X:Cx)(xe:Value->Shared->Prop)(pn:List (Addr×Obj)):Cx:={ X with xe:=xe,pn:=pn++X.pn }
theorem Cx.Ok.tryb {xe:Value->Shared->Prop}{pn:List (Addr×Obj)}(ok:X.Ok):(X.tryb xe pn).Ok :=
 ⟨ok.mod,ok.kind,ok.glob,ok.blt,ok.above,ok.inj,ok.has,ok.cab,ok.hd,ok.frames,ok.stk,ok.exf,ok.bs,ok.bsz,ok.noex,ok.exfs,ok.funs,ok.frf⟩
theorem j7.tryb {xe:Value->Shared->Prop}(I:j7 X pins σ H s):j7 (X.tryb xe pins) [] σ H s :=
 ⟨I.ok.tryb,I.os,I.bare,I.base,I.loc,I.cell,I.free,I.freeC,λp hp=>I.pin p (by
  have hp:p∈(pins++X.pn)++[]:=hp;rw[List.append_nil]at hp;rcases List.mem_append.mp hp with z|z
  ·exact List.mem_append_right _ z
  ·exact List.mem_append_left _ z),I.hok,I.len⟩
theorem j7.untryb {xe:Value->Shared->Prop}{pins':List (Addr×Obj)}(ok:X.Ok)(I:j7 (X.tryb xe pins) pins' σ H s):j7 X pins σ H s :=
 ⟨ok,I.os,I.bare,I.base,I.loc,I.cell,I.free,I.freeC,λp hp=>I.pin p (by
  show p∈(pins++X.pn)++pins';rcases List.mem_append.mp hp with z|z
  ·exact List.mem_append_left _ (List.mem_append_right _ z)
  ·exact List.mem_append_left _ (List.mem_append_left _ z)),I.hok,I.len⟩
theorem Cb {body:List Stmt}{h0:ExceptHandler}{hs:List ExceptHandler}{pos:Pos}{R:VK->XK}{tb:XK->TS}(hst:X.stack=X.env::X.outer)(hfr:X.env.frame=some X.env.locals)(hex:X.ex=[])(hh:cH X (h0::hs) R)
  (hb:∀ (xe:Value->Shared->Prop) (pn:List (Addr×Obj)) (E':XK),AF (X.tryb xe pn) E'->PassesOwn (model X.prog X.w) X.A X.env xe->pJ (X.tryb xe pn) body (tb E')) :
  PS X (.Try body (h0::hs) [] [] pos) (λD σ H=>tb (λcls od H'=>∃ C,cls=.ref C/\fC X.K C=true/\R D.rt cls od H') (uV D.rt) σ H):=by
 intro pins s σ H D I h;have up:∀ {fl:Flow}{s':Shared},SP X pins (uV D.rt) fl s'->SP X pins D fl s':=λ{fl s'} q=>by
  cases fl with
  |next=>obtain⟨_,_,_,z⟩:=q;exact z.elim
  |brk=>obtain⟨_,_,_,z⟩:=q;exact z.elim
  |cont=>obtain⟨_,_,_,z⟩:=q;exact z.elim
  |ret u=>exact q
 refine wpAny_Try_except ?_;refine wpAny_mono (hb (λe s1=>wpAny (model X.prog X.w) X.A (noteFrame e X.env) (λ_ s2=>wpAny (model X.prog X.w) X.A (setFlight e none) (λ_ s3=>wpAny (model X.prog X.w) X.A (handleBy e X.env (h0::hs)) (SP X pins D) X.xe s3) X.xe s2) X.xe s1) pins
  (λcls od H'=>∃ C,cls=.ref C/\fC X.K C=true/\R D.rt cls od H') ?_ PassesOwn.looking [] s σ H (uV D.rt) I.tryb h) (λfl s' q=>?_) λ_ _ z=>z
 ·rintro pins' σ₁ H₁ s₁ σ' H' s' x cls od I₁ I' ks f ⟨C,rfl,xc,hR⟩;have J₁:=I₁.untryb I.ok;have J':=I'.untryb I.ok;refine pb hst hfr hex J₁ J' ks f λh' I2 f2 ks2=>?_;exact wpAny_mono (hh pins σ₁ H₁ s₁ σ' H' _ x C od D.rt J₁ I2 ks2 f2 xc hR) (λfl s3 q=>up q) λ_ _ z=>z
 ·cases fl with
  |next=>obtain⟨_,_,_,z⟩:=q;exact z.elim
  |brk=>obtain⟨_,_,_,z⟩:=q;exact z.elim
  |cont=>obtain⟨_,_,_,z⟩:=q;exact z.elim
  |ret u =>
   obtain⟨v,σ',H',J,r,z⟩:=q;exact⟨v,σ',H',J.untryb I.ok,r,z⟩
end
structure j6 (M:List Addr)(G H G' H':Hp):Prop where
 sub0:l7 G H
 sub:l7 G' H'
 grow:l7 G G'
 keep:∀ b o,H b=some o->b∉M->H' b=some o
 there:∀ b o,H b=some o->∃ o',H' b=some o'
 fresh:∀ b o,G' b=some o->G b=some o\/H b=none
structure M7 (G H:Hp)(p:Addr)(o:HO):Prop where
 at_:H p=some o
 fr:G p=none
section
variable {M M':List Addr}{G H G1 H1 G2 H2:Hp}{p:Addr}{o u:HO}
theorem j6.refl (h:l7 G H):j6 M G H G H:=⟨h,h,l7.refl G,λ_ _ e _=>e,λ_ o e=>⟨o,e⟩,λ_ _ e=>.inl e⟩
theorem j6.none_of (e:j6 M G H G1 H1)(h:H1 p=none):H p=none:=by
 cases q:H p with
 |none=>rfl
 |some o=>obtain⟨o',z⟩:=e.there _ _ q;rw[h]at z;cases z
theorem j6.trans (a:j6 M G H G1 H1)(b:j6 M G1 H1 G2 H2):j6 M G H G2 H2 where
 sub0:=a.sub0
 sub:=b.sub
 grow:=a.grow.trans b.grow
 keep:=λc o e hc=>b.keep c o (a.keep c o e hc) hc
 there:=λc o e=>let⟨o',e'⟩:=a.there c o e;b.there c o' e'
 fresh:=λc o e=>(b.fresh c o e).elim (a.fresh c o) λz=>.inr (a.none_of z)
theorem j6.mono (a:j6 M G H G1 H1)(h:∀ b∈M,b∈M'):j6 M' G H G1 H1:=⟨a.sub0,a.sub,a.grow,λb o e hb=>a.keep b o e λz=>hb (h b z),a.there,a.fresh⟩
theorem j6.up (a:j6 [] G H G1 H1):j6 M G H G1 H1:=a.mono λ_ z=>absurd z (by simp)
theorem j6.tr0 (a:j6 M G H G1 H1)(b:j6 [] G1 H1 G2 H2):j6 M G H G2 H2:=a.trans b.up
theorem j6.same (a:j6 [] G H G1 H1):l7 H H1:=λb o e=>a.keep b o e (by simp)
theorem j6.lay (a:j6 M G H G1 H1)(h:H1 p=none):j6 M G H (i8 G1 p o) (i8 H1 p o) where
 sub0:=a.sub0
 sub:=λb u e=>by
  by_cases q:b=p
  ·subst q;rw[c9]at e⊢;exact e
  ·rw[i0 q]at e⊢;exact a.sub b u e
 grow:=λb u e=>by
  have ne:b≠p:=λq=>by
   subst q;have:=a.sub _ _ (a.grow _ _ e);rw[h]at this;cases this
  rw[i0 ne];exact a.grow b u e
 keep:=λb u e hb=>by
  have ne:b≠p:=λq=>by
   subst q;rw[a.none_of h]at e;cases e
  rw[i0 ne];exact a.keep b u e hb
 there:=λb u e=>by
  have ne:b≠p:=λq=>by
   subst q;rw[a.none_of h]at e;cases e
  rw[i0 ne];exact a.there b u e
 fresh:=λb u e=>by
  by_cases q:b=p
  ·subst q;exact .inr (a.none_of h)
  ·rw[i0 q]at e;exact a.fresh b u e
theorem j6.lend (a:j6 M G H G1 H1)(h:H1 p=none):j6 M G H G1 (i8 H1 p o) where
 sub0:=a.sub0
 sub:=λb u e=>by
  have ne:b≠p:=λq=>by
   subst q;have:=a.sub _ _ e;rw[h]at this;cases this
  rw[i0 ne];exact a.sub b u e
 grow:=a.grow
 keep:=λb u e hb=>by
  have ne:b≠p:=λq=>by
   subst q;rw[a.none_of h]at e;cases e
  rw[i0 ne];exact a.keep b u e hb
 there:=λb u e=>by
  have ne:b≠p:=λq=>by
   subst q;rw[a.none_of h]at e;cases e
  rw[i0 ne];exact a.there b u e
 fresh:=a.fresh
theorem j6.put (a:j6 M G H G1 H1)(h:H p=none\/p∈M)(f:G1 p=none):j6 M G H G1 (i8 H1 p o) where
 sub0:=a.sub0
 sub:=λb u e=>by
  have ne:b≠p:=λq=>by
   subst q;rw[f]at e;cases e
  rw[i0 ne];exact a.sub b u e
 grow:=a.grow
 keep:=λb u e hb=>by
  have ne:b≠p:=λq=>by
   subst q;rcases h with h|h
   ·rw[h]at e;cases e
   ·exact hb h
  rw[i0 ne];exact a.keep b u e hb
 there:=λb u e=>by
  by_cases q:b=p
  ·subst q;exact⟨o,c9⟩
  ·rw[i0 q];exact a.there b u e
 fresh:=a.fresh
theorem j6.freeze (a:j6 M G H G1 H1)(e:H1 p=some o)(h:H p=none):j6 M G H (i8 G1 p o) H1 where
 sub0:=a.sub0
 sub:=λb u z=>by
  by_cases q:b=p
  ·subst q;rw[c9]at z;rw[e];exact z
  ·rw[i0 q]at z;exact a.sub b u z
 grow:=λb u z=>by
  have ne:b≠p:=λq=>by
   subst q;have:=a.sub0 _ _ z;rw[h]at this;cases this
  rw[i0 ne];exact a.grow b u z
 keep:=a.keep
 there:=a.there
 fresh:=λb u z=>by
  by_cases q:b=p
  ·subst q;exact .inr h
  ·rw[i0 q]at z;exact a.fresh b u z
theorem M7.ext (w:M7 G H p o)(a:j6 M G H G1 H1)(h:p∉M):M7 G1 H1 p o :=
 ⟨a.keep _ _ w.at_ h,by
  cases q:G1 p with
  |none=>rfl
  |some u =>
   rcases a.fresh _ _ q with z|z
   ·rw[w.fr]at z;cases z
   ·rw[w.at_]at z;cases z⟩
theorem M7.new (s:l7 G H)(h:H p=none):M7 G (i8 H p o) p o:=⟨c9,s.free h⟩
theorem M7.put (w:M7 G H p o):M7 G (i8 H p u) p u:=⟨c9,w.fr⟩
end
abbrev Rl (α:Type):=Hp->V->α->Prop
def yx {α:Type}(R:Rl α):Prop:=∀ (G G':Hp) (v:V) (a:α),l7 G G'->R G v a->R G' v a
theorem l7.seqT {K:W.Frag}{H H':Hp}{a:Addr}{xs:List V}(e:l7 H H')(h:W2 K H a xs):W2 K H' a xs:=by
 rcases h with(h|⟨o,h⟩)|h
 ·exact .inl (.inl (e _ _ h))
 ·exact .inl (.inr ⟨o,e _ _ h⟩)
 ·exact .inr h
def Fr (K:W.Frag):Rl Rat:=λG v q=>∃ p,v=.ref p/\W2 K G p [.int q.num,.int q.den]
def j0 (b:List UInt8):List V:=b.map λ(c:UInt8)=>V.int (c.toNat:Int)
def Bs (K:W.Frag):Rl (List UInt8):=λG v b=>∃ p,v=.ref p/\C9 K G p (j0 b)
def Ls (K:W.Frag){α:Type}(R:Rl α):Rl (List α):=λG v l=>∃ p vs,v=.ref p/\C9 K G p vs/\Paired (R G) vs l
def Tp (K:W.Frag){α:Type}(R:Rl α):Rl (List α):=λG v l=>∃ p vs,v=.ref p/\W2 K G p vs/\Paired (R G) vs l
theorem Fr.mono {K:W.Frag}:yx (Fr K):=λ_ _ _ _ s ⟨p,e,h⟩=>⟨p,e,s.seqT h⟩
theorem Bs.mono {K:W.Frag}:yx (Bs K):=λ_ _ _ _ s ⟨p,e,h⟩=>⟨p,e,s.seq h⟩
theorem Paired.map' {α β:Type}{F F':α->β->Prop}(hm:∀ a b,F a b->F' a b):∀ {l₁:List α}{l₂:List β},Paired F l₁ l₂->Paired F' l₁ l₂
 |_,_,.nil=>.nil
 |_,_,.cons h t=>.cons (hm _ _ h) (Paired.map' hm t)
theorem Tp.mono {K:W.Frag}{α:Type}{R:Rl α}(m:yx R):yx (Tp K R):=λ_ _ _ _ s ⟨p,vs,e,h,r⟩=>⟨p,vs,e,s.seqT h,Paired.map' (λ_ _ z=>m _ _ _ _ s z) r⟩
theorem sS {n:Nat}{x:Int}(h:Ma.B n x):Builtin.Int.intBits x<=n:=by
 unfold Builtin.Int.intBits;by_cases h0:x=0
 ·subst h0;exact Nat.zero_le _
 ·rw[if_neg (by simpa using h0)];have hn:x.natAbs≠0:=by omega
  exact(Nat.log2_lt hn).mpr h
def CB (i j:Int):Prop:=Ma.B 67108864 i/\Ma.B 67108864 j
theorem CB.ok {i j:Int}(h:CB i j):IntMulOk i j:=by
 have h1:=sS h.1;have h2:=sS h.2;have e:Builtin.Int.intTooBig (Builtin.Int.intBits i+Builtin.Int.intBits j)=false:=by
  unfold Builtin.Int.intTooBig;have:bitsLine=134217728:=by decide
  exact decide_eq_false (by omega)
 unfold IntMulOk;rw[e];simp
section
variable {X:Cx}
theorem i4:fB X (binaryOp .Mult) (rI CB λi j=>.int (i*j)):=Fq λ_ _ _ _ _ _ _ hc q=>mul_int q hc.ok
theorem js:fB X (inplaceOp .Mult) (rI CB λi j=>.int (i*j)):=Fq λ_ _ _ _ _ _ _ hc q=>imul_int q hc.ok
structure ED (X:Cx):Prop where
 tree:X.prog.given.tree=none
 stk:X.stack=X.env::X.outer
 gen:X.env.scope.isGenerator=false
 co:X.env.scope.isCoroutine=false
 dp:X.A.depth+Builtin.pylongFrames<recursionLimit
theorem nG {pins:List (Addr×Obj)}{σ:St}{H:Hp}{s:Shared}(d:ED X)(I:j7 X pins σ H s):PySem.PylongRoom (model X.prog X.w) X.A s :=
 PySem.PylongRoom.of I.nolimit d.dp (PySem.SeerAt.of (I.ok.mod.seer.keeps I.bk) d.tree (I.ok.frames.trans (congrArg some d.stk)) d.gen d.co I.ok.blt I.ok.glob)
theorem P5 (d:ED X):fB X (binaryOp .FloorDiv) (rI (λ_ j=>j≠0) λi j=>.int (i.fdiv j)):=by
 intro pins s σ H x y v u Q I rx ry h;obtain⟨i,j,rfl,rfl,hc,q⟩:=h;obtain⟨t,rfl⟩:=rx;obtain⟨t',rfl⟩:=ry;exact floordiv_int hc ⟨.int _,H,I.tok _,⟨_,rfl⟩,q⟩ (.inr (nG d I))
end
def Gk (t1 t2:TS):TS:=λD σ H=>∃ R:L2.St->Hp->Prop,t1 { D with nx:=R } σ H/\∀ σ' H',R σ' H'->t2 D σ' H'
theorem R5 {X:Cx}{a:Stmt}{r:List Stmt}{t u:TS}(ha:PS X a t)(hr:pJ X r u):pJ X (a::r) (Gk t u):=by
 intro pins s σ H D I ⟨R,h,h'⟩;refine wpAny_execs_cons (B9 (ha pins s σ H { D with nx:=R } I h) λf s1 q=>?_);cases f with
 |next =>
  obtain⟨σ',H',I',q⟩:=q;exact hr pins s1 σ' H' D I' (h' _ _ q)
 |ret v=>exact q
 |brk=>exact q
 |cont=>exact q
structure B8 (P:Program)(w:World)(K:W.Frag)(mg:Str->Option Value)(base:Heap)(k:Nat)(x:Str)(ps:List Str)(sp:Sp):Prop where
 ex:∃ f fd,o8 P w K mg base (A7 P w) k f fd ps sp/\mg x=some (.ref f)/\W.keepIn K (.ref f)=true/\V1 K fd ps []
section
variable {X:Cx}{k:Nat}{x:Str}{ps:List Str}{sp:Sp}{E:XK}{p pos:Pos}{e:Expr}{es:List Expr}{t:TA}
theorem d9 (D:B8 X.prog X.w X.K X.mg X.base k x ps sp)(hr:F9 k X.A)(hx:F6 (A7 X.prog X.w) X E)(ha:PA X (e::es) t)(hg:Gl X x:=by rfl)(hdb:(x==("__debug__" : Str))=false:=by decide)
  (he:starEach (e::es) X.env=(false,eval e X.env)::starEach es X.env:=by rfl) (hpl:(backTo pos (starEach es X.env)).any (·.1)=false:=by rfl) :
  PE X (.Call (.Name x p) (e::es) [] pos) (rg sp [] E t):=by
 obtain⟨f,fd,F,hm,hk,hb⟩:=D.ex;exact zm F hr hg hm hk hb .nil hx ha hdb he hpl
end
section
variable {P:Program}{w:World}{K:W.Frag}{mg:Str->Option Value}{base:Heap}{N:List Str}{qual:Str}{scope:Scope}{f:Addr}{cd:Value}{A:Around}{outer:List Env}{s0:Shared}{H0:Hp}{E:XK}
theorem fj {k:Nat}(ht:P.given.tree=none)(hg:scope.isGenerator=false)(hc:scope.isCoroutine=false)(hr:F9 k (A.deeper (envOfC qual scope s0.heap.objs.size f cd))):ED (dj (A7 P w) P w K mg base N qual scope f cd A outer s0 H0 E) :=
 ⟨ht,rfl,hg,hc,by have:=hr.dp;show _+100<_;show(A.deeper (envOfC qual scope s0.heap.objs.size f cd)).depth+100<_;omega⟩
end
def fN (x:Str):List V:=x.cps.toList.map λc=>V.str ⟨#[c]⟩
theorem hX (x:Str):(fN x).length=x.cps.size:=by unfold fN;rw[List.length_map];exact Array.length_toList
theorem rB {x:Str}{i c:Nat}(h:x.cps[i]?=some c):(fN x)[i]?=some (.str ⟨#[c]⟩):=by
 unfold fN;rw[List.getElem?_map,Array.getElem?_toList,h];rfl
theorem Al {x:Str}{g:TG}{tb:TS}{D:jS}{σ:L2.St}{H:Hp}(Pv:Nat->L2.St->Hp->Prop)(h0:Pv 0 σ H)
  (hs:∀ i y σ H,(fN x)[i]?=some y->Pv i σ H->g y σ H λσ2 H2=>tb { D with nx:=Pv (i+1),ct:=Pv (i+1),bk:=D.nx } σ2 H2) (hd:∀ σ H,Pv (fN x).length σ H->D.nx σ H) :
  ∃ W:Nat->Nat->L2.St->Hp->Prop,(∃ m,W 0 m σ H)/\∀ i m σ H,W i m σ H ->
   ((Bq x).stop i H/\D.nx σ H)\/((Bq x).go i H/\∃ N:L2.St->Hp->Prop,(∀ σ' H',N σ' H'->∃ m',m'<m/\W (i+1) m' σ' H')/\∀ y H',(Bq x).yld i H y H'->g y σ H' λσ2 H2=>tb { D with nx:=N,ct:=N,bk:=D.nx } σ2 H2):=by
 refine⟨λi m σ H=>m=(fN x).length-i/\i<=(fN x).length/\Pv i σ H,⟨(fN x).length,by simp,Nat.zero_le _,h0⟩,?_⟩;rintro i m σ H ⟨rfl,hi,p⟩;by_cases hlt:i<(fN x).length
 ·refine .inr ⟨by rw[hX]at hlt;exact hlt,Pv (i+1),λσ' H' p'=>⟨(fN x).length-(i+1),by omega,rfl,hlt,p'⟩,λy H' q=>?_⟩;obtain⟨e,c,hc,rfl⟩:=q;subst e;exact hs i _ σ _ (rB hc) p
 ·have e:i=(fN x).length:=by omega
  subst e;exact .inl ⟨by rw[hX];exact Nat.le_refl _,hd σ H p⟩
theorem xD {x:Str}{g:TG}{tt:TT}{te:TE}{vs:List Nat}{σ:L2.St}{H1:Hp}{D:Addr}{Qd:Hp->Prop}(Pv:Nat->Hp->Prop)(h0:Pv 0 (i8 H1 D (.lst [])))
  (hs:∀ i y H,(fN x)[i]?=some y->Pv i H->g y (K6 σ vs) H λσ2 H2=>K6 σ2 vs=K6 σ vs/\tt σ2 H2 λb H3 =>
   if b=true then te σ2 H3 λy H4=>∃ acc,H4 D=some (.lst acc)/\acc.length<sizeLine/\Pv (i+1) (i8 H4 D (.lst (acc++[y])))else Pv (i+1) H3) (hd:∀ H,Pv (fN x).length H->Qd H) :
  ∃ W:Nat->Nat->Hp->Prop,(∃ m,W 0 m (i8 H1 D (.lst [])))/\∀ i m H,W i m H ->
   ((Bq x).stop i H/\Qd H)\/((Bq x).go i H/\∃ Nx:Hp->Prop,(∀ H',Nx H'->∃ m',m'<m/\W (i+1) m' H')/\∀ y H',(Bq x).yld i H y H'->g y (K6 σ vs) H' λσ2 H2=>K6 σ2 vs=K6 σ vs/\tt σ2 H2 λb H3 =>
    if b=true then te σ2 H3 λy H4=>∃ acc,H4 D=some (.lst acc)/\acc.length<sizeLine/\Nx (i8 H4 D (.lst (acc++[y])))else Nx H3):=by
 refine⟨λi m H=>m=(fN x).length-i/\i<=(fN x).length/\Pv i H,⟨(fN x).length,by simp,Nat.zero_le _,h0⟩,?_⟩;rintro i m H ⟨rfl,hi,p⟩;by_cases hlt:i<(fN x).length
 ·refine .inr ⟨by rw[hX]at hlt;exact hlt,Pv (i+1),λH' p'=>⟨(fN x).length-(i+1),by omega,rfl,hlt,p'⟩,λy H' q=>?_⟩;obtain⟨e,c,hc,rfl⟩:=q;subst e;exact hs i _ _ (rB hc) p
 ·have e:i=(fN x).length:=by omega
  subst e;exact .inl ⟨by rw[hX];exact Nat.le_refl _,hd H p⟩
theorem Ak {K:W.Frag}{a b:Addr}{xs ys:List V}{g:TG}{tb:TS}{D:jS}{σ:L2.St}{H:Hp}(hlen:xs.length=ys.length)(Pv:Nat->L2.St->Hp->Prop)(h0:Pv 0 σ H)(hl:∀ i σ H,i<=xs.length->Pv i σ H->C9 K H a xs/\C9 K H b ys)
  (hs:∀ i x y T σ H,xs[i]?=some x->ys[i]?=some y->Pv i σ H->H T=none->g (.ref T) σ (i8 H T (.tup [x,y])) λσ2 H2=>tb { D with nx:=Pv (i+1),ct:=Pv (i+1),bk:=D.nx } σ2 H2) (hd:∀ σ H,Pv xs.length σ H->D.nx σ H) :
  ∃ W:Nat->Nat->L2.St->Hp->Prop,(∃ m,W 0 m σ H)/\∀ i m σ H,W i m σ H ->
   ((Bp K a b).stop i H/\D.nx σ H)\/((Bp K a b).go i H/\∃ N:L2.St->Hp->Prop,(∀ σ' H',N σ' H'->∃ m',m'<m/\W (i+1) m' σ' H')/\∀ x H',(Bp K a b).yld i H x H'->g x σ H' λσ2 H2=>tb { D with nx:=N,ct:=N,bk:=D.nx } σ2 H2):=by
 refine⟨λi m σ H=>m=xs.length-i/\i<=xs.length/\Pv i σ H,⟨xs.length,by simp,Nat.zero_le _,h0⟩,?_⟩;rintro i m σ H ⟨rfl,hi,p⟩;obtain⟨q1,q2⟩:=hl i σ H hi p;by_cases hlt:i<xs.length
 ·have hlt2:i<ys.length:=by omega
  refine .inr ⟨⟨xs,ys,xs[i],ys[i],q1,q2,by simp[hlt],by simp[hlt2]⟩,Pv (i+1),λσ' H' p'=>⟨xs.length-(i+1),by omega,rfl,hlt,p'⟩,λx H' z=>?_⟩;obtain⟨T,x1,y1,rfl,hT,rfl,z1,z2⟩:=z;exact hs i x1 y1 T σ H (z1 xs q1) (z2 ys q2) p hT
 ·have e:i=xs.length:=by omega
  subst e;exact .inl ⟨⟨xs,ys,q1,q2,.inl (Nat.le_refl _)⟩,hd σ H p⟩
theorem xC {K:W.Frag}{a b:Addr}{xs ys:List V}{g:TG}{tt:TT}{te:TE}{vs:List Nat}{σ:L2.St}{H1:Hp}{D:Addr}{Qd:Hp->Prop}(hlen:xs.length=ys.length)(Pv:Nat->Hp->Prop)(h0:Pv 0 (i8 H1 D (.lst [])))(hl:∀ i H,i<=xs.length->Pv i H->C9 K H a xs/\C9 K H b ys)
  (hs:∀ i x y T H,xs[i]?=some x->ys[i]?=some y->Pv i H->H T=none->g (.ref T) (K6 σ vs) (i8 H T (.tup [x,y])) λσ2 H2=>K6 σ2 vs=K6 σ vs/\tt σ2 H2 λb H3 =>
   if b=true then te σ2 H3 λy H4=>∃ acc,H4 D=some (.lst acc)/\acc.length<sizeLine/\Pv (i+1) (i8 H4 D (.lst (acc++[y])))else Pv (i+1) H3) (hd:∀ H,Pv xs.length H->Qd H) :
  ∃ W:Nat->Nat->Hp->Prop,(∃ m,W 0 m (i8 H1 D (.lst [])))/\∀ i m H,W i m H ->
   ((Bp K a b).stop i H/\Qd H)\/((Bp K a b).go i H/\∃ Nx:Hp->Prop,(∀ H',Nx H'->∃ m',m'<m/\W (i+1) m' H')/\∀ x H',(Bp K a b).yld i H x H'->g x (K6 σ vs) H' λσ2 H2=>K6 σ2 vs=K6 σ vs/\tt σ2 H2 λb H3 =>
    if b=true then te σ2 H3 λy H4=>∃ acc,H4 D=some (.lst acc)/\acc.length<sizeLine/\Nx (i8 H4 D (.lst (acc++[y])))else Nx H3):=by
 refine⟨λi m H=>m=xs.length-i/\i<=xs.length/\Pv i H,⟨xs.length,by simp,Nat.zero_le _,h0⟩,?_⟩;rintro i m H ⟨rfl,hi,p⟩;obtain⟨q1,q2⟩:=hl i H hi p;by_cases hlt:i<xs.length
 ·have hlt2:i<ys.length:=by omega
  refine .inr ⟨⟨xs,ys,xs[i],ys[i],q1,q2,by simp[hlt],by simp[hlt2]⟩,Pv (i+1),λH' p'=>⟨xs.length-(i+1),by omega,rfl,hlt,p'⟩,λx H' z=>?_⟩;obtain⟨T,x1,y1,rfl,hT,rfl,z1,z2⟩:=z;exact hs i x1 y1 T H (z1 xs q1) (z2 ys q2) p hT
 ·have e:i=xs.length:=by omega
  subst e;exact .inl ⟨⟨xs,ys,q1,q2,.inl (Nat.le_refl _)⟩,hd H p⟩
end L2
namespace PySem
open Sem (wp)
section
variable {prog:Program}{w:World}{A:Around}{E:Value->Shared->Prop}{s:Shared}{d:Addr}
theorem om (hd:(d==sysModules)=false) :
  MeetsIn prog w (Builtin.«dict.__len__» ⟨[.ref d],[]⟩) (λ_ R s=>∃ o es ep,s.heap.get? d=some o/\o.data=.dict es ep/\R (.ok (.ret (.int (es.size:Nat) s.toks))) { s with toks:=s.toks+1 }) :=
 .of_wp λA R s ⟨o,es,ep,ho,hdat,h⟩=>by
  show wpAny _ _ (dictSize d >>= _) _ _ s;unfold dictSize;refine wpAny_bind (wpAny_bind (wpAny_dictEntries ho hdat (wpAny_pure ?_)));show wpAny _ _ (Builtin.Dict.pendingCount d >>= _) _ _ s;refine wpAny_bind (wpAny_pendingCount_other hd ?_);refine wpAny_ret_mkInt ?_;rw[Nat.add_zero];exact h
theorem qy {o:Obj}{es:Array DictEntry}{ep:Nat}{Q:Value->Shared->Prop}(hd:(d==sysModules)=false)(ho:s.heap.get? d=some o)(hx:o.ExactDict)(hdat:o.data=.dict es ep)(hfit:(es.size:Int)<2^63)
  (h:Q (.int (es.size:Nat) (s.toks+1)) { s with toks:=s.toks+1+1 }):wpAny (model prog w) A (Builtin.«len» ⟨[.ref d],[]⟩) (λfin s'=>∃ r,fin=.done (.ret r)/\Q r s') E s:=by
 have ty:s.TypeIs (.ref d) "dict":=⟨o,ho,hx.1⟩;unfold Builtin.«len»;refine wpAny_bind (m:=oneArg "len" _) (wpAny_pure ?_);refine wpAny_bind (m:=callSpecial? (.ref d) (Str.ofString "__len__")) (wpAny_callSpecial?_slot (name:=Str.ofString "__len__") ty F.slot_dict_len
  (call_meetsIn F.slot_dict_len ty F.entry_dict_len (F.args_dict_len_1 _) (om hd) ⟨o,es,ep,ho,hdat,?_⟩))
 show wpAny _ _ _ _ _ { s with toks:=s.toks+1 };refine wpAny_bind (wpAny_holding (wpAny_pure ?_));refine wpAny_bind (wpAny_letGo ?_);show wpAny _ _ (if((es.size:Nat):Int)<0 then _ else _) _ _ _;rw[if_neg (by omega)];show wpAny _ _ (if((es.size:Nat):Int)>=2^63 then _ else _) _ _ _;rw[if_neg (by omega)];exact wpAny_bind (wpAny_mkInt (wpAny_pure ⟨_,rfl,h⟩))
theorem qJ {o:Obj}{es:Array DictEntry}{ep:Nat}{Q:Value->Shared->Prop}(hd:(d==sysModules)=false)(ho:s.heap.get? d=some o)(hx:o.ExactDict)(hdat:o.data=.dict es ep)(hfit:(es.size:Int)<2^63)
  (h:Q (.int (es.size:Nat) (s.toks+1)) { s with toks:=s.toks+1+1 }):wpAny (model prog w) A (call (.builtin "len") [.ref d]) Q E s :=
 Calls.call_function_entry kind_len plain_len entry_len (args_len1 _) (qy hd ho hx hdat hfit h)
end
end PySem
namespace L2
open PySem PySem.Spec PyProof.Rows
theorem kO {X:Cx}:gK X (.builtin "len") (λxs H Q=>∃ a kvs,xs=[V.ref a]/\H a=some (.dT kvs)/\Q (.int (kvs.length:Nat)) H):=by
 intro pins s σ H xs us Q I r h;obtain⟨a,kvs,rfl,ha,q⟩:=h;obtain⟨u,rfl,ru⟩:=jV r;cases ru;obtain⟨z,y,xs,rel,o,es,ep,h1,h2,h3,h4,h5⟩:=(show y3 X.prog X.w H s.heap a (.dT kvs) from I.hok a _ ha);have hl:es.size=kvs.length:=by rw[size_of_entries h4];exact(Paired.length rel).symm
 refine qJ y h1 h2 h3 (by rw[hl];rw[sizeLine_eq]at z;omega) ?_;rw[hl];exact⟨.int (kvs.length:Nat),H,(I.tok _).tok _,⟨_,rfl⟩,q⟩
open TL
section
variable {X:Cx}{a b:Expr}{ta tb:TE}{pos p1 p2 p3:Pos}
theorem kC:EJ X "int.bit_length" (λx xs H Q=>∃ i,x=.int i/\xs=[]/\Q (.int ((Builtin.Int.intBits i:Nat):Int)) H):=by
 intro pins s σ H x xs v us Q I rx r h;obtain⟨i,rfl,rfl,q⟩:=h;obtain⟨t,rfl⟩:=rx;cases r;exact call_int_bit_length ⟨.int _,H,I.tok _,⟨_,rfl⟩,q⟩
theorem j7.dig {pins:List (Addr×Obj)}{σ:L2.St}{H:Hp}{s:Shared}(I:j7 X pins σ H s):s.heap.NoDigits:=I.ok.mod.digits.keeps I.bk
theorem uN (hc:X.calm=true):gK X (.type "str") (λxs H Q=>∃ i:Int,xs=[.int i]/\i.natAbs<10^4300/\Q (.str (Str.ofString (toString i))) H):=by
 intro pins s σ H xs us Q I r h;obtain⟨i,rfl,hz,q⟩:=h;obtain⟨u,rfl,t,rfl⟩:=jV r;exact str_of_int_or (I.ok.hd hc) I.dig (λ_=>⟨.str _,H,I.tok _,⟨_,rfl⟩,q⟩) (λhge=>absurd hz (Nat.not_lt.mpr hge))
def Hu (x:Str)(ta tb:TE):TE:=λσ H Q=>ta σ H λu H1=>∃ i:Int,u=.int i/\i.natAbs<10^4300/\(Str.ofString (toString i)).length+x.length<=sizeLine/\tb σ H1 λv H2=>∃ k:Int,v=.int k/\k.natAbs<10^4300/\(Str.ofString (toString i)).length+x.length+(Str.ofString (toString k)).length<=sizeLine /\
 Q (.str (Str.ofString (toString i)++x++Str.ofString (toString k))) H2
theorem cZ (y:Str):Str.empty++y=y:=by
 refine Ej ?_;rw[Z0];rfl
theorem Fo {x:Str}{j:Nat}(hc:X.calm=true)(ha:PE X a ta)(hb:PE X b tb) :
  PE X (.JoinedStr [.FormattedValue a (-1) none p1,.Constant (.str x) j p2,.FormattedValue b (-1) none p3] pos) (Hu x ta tb):=by
 intro pins s σ H Q I h;refine wpAny_JoinedStr ?_;show wpAny _ _ (eval (.FormattedValue a (-1) none p1) X.env) _ _ s;refine wpAny_FormattedValue_plain (B9 (ha pins s σ H _ I h) λu s1 ⟨xu,H1,I1,r1,i,hi,hlt,hl0,q1⟩=>?_);subst hi;obtain⟨t,rfl⟩:=r1;refine formatField_int (I1.ok.hd hc) I1.dig (λ_=>?_) (λhge=>absurd hlt (Nat.not_lt.mpr hge));refine⟨_,_,rfl,?_,?_⟩
 ·rw[cZ];exact int_text_fits10 hlt
 have I2:=(I1.tok (s1.toks+1+1));show wpAny _ _ (eval (.Constant (.str x) j p2) X.env) _ _ _;refine Calls.Constant_str ?_;refine⟨_,_,rfl,?_,?_⟩
 ·rw[cZ,strLen_append];exact hl0
 show wpAny _ _ (eval (.FormattedValue b (-1) none p3) X.env) _ _ _;have I3:=I2.tok (s1.toks+1+1+1);refine wpAny_FormattedValue_plain (B9 (hb pins _ σ H1 _ I3 q1) λv s4 ⟨xv,H4,I4,r4,k,hk,hlk,hlen,q4⟩=>?_);subst hk;obtain⟨t4,rfl⟩:=r4;refine formatField_int (I4.ok.hd hc) I4.dig (λ_=>?_) (λhge=>absurd hlk (Nat.not_lt.mpr hge));refine⟨_,_,rfl,?_,?_⟩
 ·rw[cZ,strLen_append,strLen_append];exact hlen
 ·rw[cZ];refine⟨by rw[strLen_append,strLen_append];exact hlen,.str _,H4,?_,⟨_,rfl⟩,q4⟩;exact((I4.tok (s4.toks+1+1))).tok _
end
theorem lr (i:Int):tl (Str.ofString (toString i))=Ma.jP i:=by
 unfold Ma.jP;by_cases h:i<0
 ·rw[if_pos h,toString_neg h];have e:(0:Int)-i=((i.natAbs:Nat):Int):=by omega
  rw[e,gk,String.toList_append,List.map_append];have e2:=pO i.natAbs;rw[gk]at e2;rw[e2];rfl
 ·rw[if_neg h];have e:i=((i.natAbs:Nat):Int):=by omega
  rw[e];exact pO _
section
variable {M:Model}{A:Around}{E:Value->Shared->Prop}{s:Shared}
theorem jN {x:Value}{e1 e2:Env}(h:e1.frame=e2.frame):noteFrame x e1=noteFrame x e2:=by
 unfold noteFrame PySem.frameOf;rw[h]
theorem yf {base:Heap}{env:Env}{outer:List Env}{L x:Addr}{oe:Obj}{vs:Array Value}{head:Value}{hadNext:Bool}{Q:Unit->Shared->Prop}
  (hfr:A.frames=some (env::outer)) (hl:s.heap.FunFrames base (env::outer)) (hf:env.frame=some L)
  (he:s.heap.get? x=some oe) (hd:oe.data=.fields vs) (hsz:1<vs.size)
  (h:∀ h',jI ((env::outer).filterMap (·.frame)) x oe .none s.heap h'->Q () { s with heap:=h' }) :
  wpAny M A (do let a ← frameOf env;let pl ← entryPlaceOf L hadNext;let b ← EntryCells.newEntry head a .none (rawInt L) .none pl;setField (.ref x) 1 b) Q E s:=by
 have hene:x∉(env::outer).filterMap (·.frame):=λhm=>by
  obtain⟨_,o,ho,hnf⟩:=hl.mem hm;rw[he]at ho;injection ho with ho;subst ho;exact hnf vs hd
 refine wpAny_bind (wpAny_frameOf_fun hfr hl hf λh₁ hs₁=>?_);refine wpAny_bind (wpAny_entryPlaceOf λpl hpl=>?_);unfold EntryCells.newEntry newFields;refine wpAny_bind (wpAny_newObj_type ?_ (hpl.sizeOk5 _ _ _ _ _));have he₁:h₁.get? x=some oe:=(hs₁.2.1 x hene).trans he;have he₂:=Heap.get?_push_of_some (h:=h₁) { cls:=.type "traceback",dict:=none,data:=.fields ([head,.ref L,.none,rawInt L,.none]++(if pl.isEmpty then List.replicate 6 Value.none else pl)).toArray } he₁;have hTe:h₁.objs.size≠x:=Nat.ne_of_gt (Heap.lt_size he₁);have hd₃:=Obj.data_mapFields hd (·.setIfInBounds 1 (Value.ref h₁.objs.size));have he₃:=Heap.get?_update_self (Obj.mapFields (·.setIfInBounds 1 (Value.ref h₁.objs.size))) he₂ (Obj.isFreed_of_fields hd₃);have hT₃:=(Heap.get?_update_other (h₁.push { cls:=.type "traceback",dict:=none,data:=.fields ([head,.ref L,.none,rawInt L,.none]++(if pl.isEmpty then List.replicate 6 Value.none else pl)).toArray })
  (Obj.mapFields (·.setIfInBounds 1 (Value.ref h₁.objs.size))) (Ne.symm hTe)).trans (Heap.get?_push_size h₁ rfl)
 refine wpAny_setField he₂ hd hsz (h _ ?_);have keep:∀ b o,b≠x->h₁.get? b=some o ->
   ((h₁.push { cls:=.type "traceback",dict:=none,data:=.fields ([head,.ref L,.none,rawInt L,.none]++(if pl.isEmpty then List.replicate 6 Value.none else pl)).toArray }).update x (Obj.mapFields (·.setIfInBounds 1 (Value.ref h₁.objs.size)))).get? b=some o:=λb o hbe hb=>by
  rw[Heap.get?_update_other _ _ (Ne.symm hbe)];exact Heap.get?_push_of_some _ hb
 refine⟨⟨_,_,h₁.objs.size,_,_,he₃,Obj.cls_mapFields _ _,?_,hd₃,by simp[hsz],hTe,hT₃,rfl,?_,.inl ?_⟩,λb o hb _ hbf e=>keep b o hb ((hs₁.2.1 b hbf).trans e),λb o hb _ e=>?_,λb o e=>?_⟩
 ·obtain⟨c,d,dt,sl⟩:=oe;cases dt<;>rfl
 ·simp only[List.size_toArray,List.length_append,List.length_cons,List.length_nil];omega
 ·exact Heap.get?_none_of_le (by rw[hs₁.1];exact Nat.le_refl _)
 ·obtain⟨sl,hs⟩:=hs₁.2.2 b o e;exact⟨sl,keep b _ hb hs⟩
 ·by_cases hb:b=x
  ·subst hb;exact⟨_,he₃⟩
  ·obtain⟨sl,hs⟩:=hs₁.2.2 b o e;exact⟨_,keep b _ hb hs⟩
theorem Am {x T:Addr}{oe oT:Obj}{vs ts:Array Value}{fs:List Addr}{fr:Option Addr}{Q:Unit->Shared->Prop}(he:s.heap.get? x=some oe)(hd:oe.data=.fields vs)(h1:vs[1]?=some (.ref T))(hTe:T≠x)
  (hT:s.heap.get? T=some oT) (hdT:oT.data=.fields ts) (hsz:3<ts.size) (h:∀ h',jI fs x oe (.ref T) s.heap h'->Q () { s with heap:=h' }):wpAny M A (setFlight (.ref x) fr) Q E s:=by
 unfold setFlight;refine wpAny_bind (wpAny_field he hd h1 ?_);rw[if_pos (show(Value.ref T !=Value.none)=true from by simp)];have other:∀ b,b≠T->(s.heap.update T (Obj.mapFields (·.setIfInBounds 3 (fr.elim Value.none λf=>rawInt f)))).get? b=s.heap.get? b :=
  λb hb=>Heap.get?_update_other _ _ (Ne.symm hb)
 have self':=Heap.get?_update_self (Obj.mapFields (·.setIfInBounds 3 (fr.elim Value.none λf=>rawInt f))) hT (Obj.isFreed_of_fields (Obj.data_mapFields hdT _));refine wpAny_setField hT hdT hsz (h _ ⟨⟨oe,vs,T,_,_,(other x (Ne.symm hTe)).trans he,rfl,rfl,hd,h1,hTe,self',Obj.data_mapFields hdT _,by rw[Array.size_setIfInBounds];exact hsz,.inr rfl⟩,λb o hb ho _ e=>(other b λq=>ho (by rw[q])).trans e,λb o hb ho e=>⟨o.slots,(other b λq=>ho (by rw[q])).trans e⟩,λb o e=>?_⟩);by_cases hb:b=T
 ·subst hb;exact⟨_,self'⟩
 ·exact⟨o,(other b hb).trans e⟩
theorem FD {base:Heap}{env:Env}{outer:List Env}{L x:Addr}{oe:Obj}{vs:Array Value}{Q:Unit->Shared->Prop}
  (hfr:A.frames=some (env::outer)) (hl:s.heap.FunFrames base (env::outer)) (hf:env.frame=some L)
  (he:s.heap.get? x=some oe) (hd:oe.data=.fields vs) (h1:FX s.heap x vs)
  (h:∀ h' old,vs[1]?=some old->jI ((env::outer).filterMap (·.frame)) x oe old s.heap h'->Q () { s with heap:=h' }) :
  wpAny M A (noteFrame (.ref x) env) Q E s:=by
 rcases h1 with h1|⟨T,oT,ts,h1,hTe,hT,hdT,hsz⟩
 ·unfold noteFrame;simp only[hf];refine wpAny_bind (wpAny_field he hd h1 ?_);rw[if_neg (by decide)];exact yf hfr hl hf he hd (Array.getElem?_eq_some_iff.mp h1).1 λh' n=>h h' _ h1 n
 ·by_cases hr:(ts[3]'hsz==rawInt L)=true
  ·unfold noteFrame;simp only[hf];refine wpAny_bind (wpAny_field he hd h1 ?_);rw[if_pos (show(Value.ref T !=Value.none)=true from by simp)];refine wpAny_bind (wpAny_field hT hdT (Array.getElem?_eq_getElem hsz) ?_);rw[if_pos hr];refine wpAny_pure (h s.heap _ h1 ⟨⟨oe,vs,T,oT,ts,he,rfl,rfl,hd,h1,hTe,hT,hdT,hsz,.inr rfl⟩,λb o _ _ _ e=>e,λb o _ _ e=>⟨o.slots,e⟩,λb o e=>⟨o,e⟩⟩)
  ·unfold noteFrame;simp only[hf];refine wpAny_bind (wpAny_field he hd h1 ?_);rw[if_pos (show(Value.ref T !=Value.none)=true from by simp)];refine wpAny_bind (wpAny_field hT hdT (Array.getElem?_eq_getElem hsz) ?_);rw[if_neg hr];refine wpAny_bind (wpAny_setField hT hdT hsz ?_);have other:∀ b,b≠T->(s.heap.update T (Obj.mapFields (·.setIfInBounds 3 Value.none))).get? b=s.heap.get? b:=λb hb=>Heap.get?_update_other _ _ (Ne.symm hb);have self':=Heap.get?_update_self (Obj.mapFields (·.setIfInBounds 3 Value.none)) hT (Obj.isFreed_of_fields (Obj.data_mapFields hdT _));have noRecord:∀ b o,s.heap.get? b=some o->(∀ vs,o.data≠.fields vs)->b≠T:=λb o hb hnf q=>by
    rw[q,hT]at hb;injection hb with hb;subst hb;exact hnf ts hdT
   have back:∀ b o,s.heap.get? b=some o->∃ o',(s.heap.update T (Obj.mapFields (·.setIfInBounds 3 Value.none))).get? b=some o':=λb o e=>by
    by_cases hb:b=T
    ·subst hb;exact⟨_,self'⟩
    ·exact⟨o,(other b hb).trans e⟩
   refine yf (s:={ s with heap:=s.heap.update T (Obj.mapFields (·.setIfInBounds 3 Value.none)) }) hfr (hl.of_keeps λb o hb hnf=>⟨o,(other b (noRecord b o hb hnf)).trans hb,rfl⟩) hf ((other x (Ne.symm hTe)).trans he) hd (Array.getElem?_eq_some_iff.mp h1).1 λh' n=>h h' (.ref T) h1 ?_;obtain⟨n1,n2,n3,n4⟩:=n;refine⟨?_,λb o hb ho hbf e=>n2 b o hb (by intro q;cases q) hbf ((other b λq=>ho (by rw[q])).trans e),λb o hb ho e=>n3 b o hb (by intro q;cases q) ((other b λq=>ho (by rw[q])).trans e),λb o e=>let⟨o',e'⟩:=back b o e;n4 b o' e'⟩;obtain⟨oe',vs',T',oT',ts',q1,q2,q3,q4,q5,q6,q7,q8,q9,q10⟩:=n1;refine⟨oe',vs',T',oT',ts',q1,q2,q3,q4,q5,q6,q7,q8,q9,?_⟩;rcases q10 with q|q
   ·refine .inl ?_;cases z:s.heap.get? T' with
    |none=>rfl
    |some o =>
     obtain⟨o',e'⟩:=back _ _ z;have q':(s.heap.update T (Obj.mapFields (·.setIfInBounds 3 Value.none))).get? T'=none:=q;rw[e']at q';cases q'
   ·cases q
end
section
variable {X:Cx}
theorem xE {E:XK}{pins:List (Addr×Obj)}{s:Shared}{σ:St}{H:Hp}{Q:VK}{elt tg iter:Expr}{ifs:List Expr}{scope:Scope}{own:List (Str×Nat)}{pos pos':Pos}{wi:TI}{g:TG}{tt:TT}{te:TE}{use:Option (Value->Sem Unit)}{Qf:Value->Shared->Prop}
  (hT:AF X E) (hst:X.stack=X.env::X.outer) (hfr:X.env.frame=some X.env.locals) (hex:X.ex=[]) (hc:X.calm=true) (hN:X.N.Nodup) (I:j7 X pins σ H s) (hi:PI X tg iter wi) (ok:jJ X.N X.env.scope scope own)
  (hg:∀ (s:Shared) (H:Hp) (C:Addr) (cl:List (Str×Addr)) (fp:List Addr),PG (X.blk s H scope (compEnvC scope cl C X.env) fp) tg g) (ht:∀ (s:Shared) (H:Hp) (C:Addr) (cl:List (Str×Addr)) (fp:List Addr),EI (X.blk s H scope (compEnvC scope cl C X.env) fp) ifs tt)
  (he:∀ (s:Shared) (H:Hp) (C:Addr) (cl:List (Str×Addr)) (fp:List Addr) (xe:Value->Shared->Prop) (pn:List (Addr×Obj)),F6 (A7 X.prog X.w) ((X.blk s H scope (compEnvC scope cl C X.env) fp).tryb xe pn) E->PE ((X.blk s H scope (compEnvC scope cl C X.env) fp).tryb xe pn) elt te) (hs:∀ x,foldedSetIterable iter X.env x=pure x)
  (h:BB wi g tt te (own.map (·.2)) σ H Q)
  (hRR:∀ D C s' m H',j7 X pins σ H' s'->Q (.ref D) H'->s'.heap.Ns C m->bL X pins H' C->compPost (model X.prog X.w) X.A X.xe use Qf (.ref D) C (.ok .next) s') :
  wpAny (model X.prog X.w) X.A (comprehension (.ListComp elt [⟨tg,iter,ifs,0⟩] scope pos) scope X.env pos' (newList []) false (eval iter X.env) use) Qf X.xe s:=by
 have hfree:∀ y∈scope.names,y.2=.free->∃ c,X.env.cells.lookup y.1=some c:=λy hy e=>by
  rcases ok.free y hy e with k|k
  ·exact I.ok.has _ (.inl k)
  ·exact I.ok.has _ (.inr k)
 refine wpAny_comprehension_free (use:=use) rfl hs (jC hfree) ok.kind (λy hy e=>by rw[ok.uniq y hy,e])
  (B9 (hi pins s σ H _ I h) λxv s1 hx=>B9 hx λitv s2 h2=>?_)
 obtain⟨it,fp,tn,J,H2,e,I2,T,st2,f2,q⟩:=h2;subst e;refine wpAny_newObj_type (gx ?_) (by show 0<=sizeLine;decide);generalize hD:s2.heap.objs.size=D;have hDn:H2 D=none:=I2.hok.fresh (Nat.le_of_eq hD);obtain⟨W,⟨m0,w0⟩,turn⟩:=q D hDn;generalize hs3:({ s2 with heap:=s2.heap.push { cls:=.type "list",data:=.seq ([]:List Value).toArray } }:Shared)=s3;have I3:j7 X pins σ (i8 H2 D (.lst [])) s3:=by
  rw[<-hs3];refine I2.laid (t':=s2.toks) (λb o e=>Heap.get?_push_of_some _ e) (Nat.le_of_eq hD) ⟨Nat.zero_le _,[],0,.nil,?_⟩;rw[<-hD];exact Heap.get?_push_size _ rfl
 have h3:s3.heap=s2.heap.push { cls:=.type "list",data:=.seq ([]:List Value).toArray }:=by rw[<-hs3]
 have sz:∀ b∈fp,b<s2.heap.objs.size:=λb hb=>by
  obtain⟨o,e,_⟩:=T.obj _ _ st2 b hb;exact Heap.lt_size e
 have f3:∀ b∈fp,bL X pins (i8 H2 D (.lst [])) b/\b<s3.heap.objs.size:=λb hb=>by
  have hlt:=sz b hb;refine⟨⟨?_,(f2 b hb).2⟩,by rw[h3,Heap.size_push];exact Nat.lt_succ_of_lt hlt⟩;rw[i0 (by rw[<-hD];exact Nat.ne_of_lt hlt)];exact(f2 b hb).1
 have st3:tn 0 s3.heap:=T.keep _ _ _ st2 λb _ o e=>by rw[h3];exact Heap.get?_push_of_some _ e
 have I4:=gJ I3 ok hN f3;have pg:=hg s3 (i8 H2 D (.lst [])) s3.heap.objs.size (cellsFrom (s3.heap.objs.size+1) scope.names (y6 X.env.cells scope.names [])) fp;have pt:=ht s3 (i8 H2 D (.lst [])) s3.heap.objs.size (cellsFrom (s3.heap.objs.size+1) scope.names (y6 X.env.cells scope.names [])) fp;have pe:=he s3 (i8 H2 D (.lst [])) s3.heap.objs.size (cellsFrom (s3.heap.objs.size+1) scope.names (y6 X.env.cells scope.names [])) fp;show codeAny _ _ (.compStart (.ListComp elt [⟨tg,iter,ifs,0⟩] scope pos) 0 (.ref it) (.ref D) (compEnvC scope (cellsFrom (s3.heap.objs.size+1) scope.names (y6 X.env.cells scope.names [])) s3.heap.objs.size X.env)) (compPost (model X.prog X.w) X.A X.xe use Qf (.ref D) s3.heap.objs.size) { s3 with heap:=pushCells (s3.heap.push { cls:=.type "dict",data:=.dict #[] }) scope.names };have nfp:∀ b∈fp,(i8 H2 D (.lst [])) b=none:=λb hb=>(f3 b hb).1.1;generalize hce:compEnvC scope (cellsFrom (s3.heap.objs.size+1) scope.names (y6 X.env.cells scope.names [])) s3.heap.objs.size X.env=ce at I4 pg pt pe⊢;have cL:ce.locals=s3.heap.objs.size:=by subst hce;rfl
 generalize hH3:i8 H2 D (.lst [])=H3 at I3 I4 pg pt pe w0 nfp f3;generalize hs4:({ s3 with heap:=pushCells (s3.heap.push { cls:=.type "dict",data:=.dict #[] }) scope.names }:Shared)=s4 at I4⊢;have st4:tn 0 s4.heap:=T.keep _ _ _ st3 λb _ o e=>by rw[<-hs4];exact pushCells_keeps _ _ _ _ (Heap.get?_push_of_some _ e)
 have stat:∀ {σ':St}{H':Hp}{s':Shared},j7 (X.blk s3 H3 scope ce fp) [] σ' H' s'->(∀ b∈fp,H' b=none)->∀ b∈fp,bL (X.blk s3 H3 scope ce fp) [] H' b:=λ{σ' H' s'} I' hn b hb =>
  ⟨hn b hb,(I'.ok.exf b hb).1,I'.ok.exfs b hb,.inl hb,λx c e=>(I'.ok.exf b hb).2 x c e,λp hp=>absurd (show p∈([]:List (Addr×Obj))++[] from hp) (by simp)⟩
 have cF:ce.frame=X.env.frame:=by subst hce;rfl
 have pass:∀ pn:List (Addr×Obj),(∀ b∈fp,∃ o,(b,o)∈pn)->F6 (A7 X.prog X.w) ((X.blk s3 H3 scope ce fp).tryb (notedBy (model X.prog X.w) X.A ce λe s'=>compPost (model X.prog X.w) X.A X.xe use Qf (.ref D) s3.heap.objs.size (.error e) s') pn) E:=by
  rintro pn hpn pins' σ' H' s' e s'' I' ⟨x,cls,od,H'',rfl,os,bare,un,hok,fl,hE⟩;have K':j7 (X.blk s3 H3 scope ce fp) pn σ' H' s':=j7.untryb I4.ok I';have J:j7 (X.blk s3 H3 scope ce fp) pn σ' H'' s'':=K'.call' os un hok bare (ch:=[]) λb z=>absurd z (by simp);have I7:j7 X pins σ H'' s'':=I3.call' (ch:=fp) J.os J.base J.hok J.bare λb hb=>⟨(f3 b hb).1.2.2.2.1,(f3 b hb).1.2.1,(f3 b hb).1.2.2.2.2.1,(f3 b hb).1.2.2.2.2.2⟩;have ks3:∀ b o,s3.heap.get? b=some o->∃ o',s'.heap.get? b=some o':=λb o q=>by
   by_cases hb:b∈fp
   ·obtain⟨o',ho'⟩:=hpn b hb;exact⟨o',(K'.pin (b,o') (List.mem_append_right _ ho')).1⟩
   ·exact K'.base.there b o q hb
  have fl3:qR s3.heap H'' s''.heap x cls od:=fl.mono (O9 ks3);have ks:∀ b o,s3.heap.get? b=some o->∃ o',s''.heap.get? b=some o':=λb o q=>let⟨o',q'⟩:=ks3 b o q;un.there b o' q' (by simp);obtain⟨oe,vs,he',hcl,hdd,hd,tb⟩:=id fl.obj;have hF:s''.heap.FunFrames X.base (X.env::X.outer):=by rw[<-hst];exact I7.stack
  have hfs:∀ b,b∈(X.env::X.outer).filterMap (·.frame)->b∈qE X.stack:=λb hb=>by rw[hst];exact hb
  have nC:H'' s3.heap.objs.size=none:=by
   have z:H'' ce.locals=none:=J.free;rw[cL]at z;exact z
  obtain⟨mC,hnC',_⟩:=J.loc;have hnC:s''.heap.Ns s3.heap.objs.size mC:=by rw[<-cL];exact hnC'
  obtain⟨mK,hnK',_⟩:=K'.loc;have hnK:s'.heap.Ns s3.heap.objs.size mK:=by rw[<-cL];exact hnK'
  obtain⟨oC,esC,epC,hoC,rC⟩:=hnC;obtain⟨oK,_,_,hoK,_⟩:=hnK;have Cx':s3.heap.objs.size≠x:=λz=>by rw[z,fl.new]at hoK;cases hoK
  have CF:s3.heap.objs.size∉(X.env::X.outer).filterMap (·.frame):=λhb=>by
   rcases List.mem_cons.mp (I3.stkSub _ (hfs _ hb))with z|z
   ·exact Nat.lt_irrefl _ (z▸I3.lt)
   ·exact I3.nofs (Nat.le_refl _) z
  show wpAny _ _ (noteFrame (.ref x) ce) _ _ s'';rw[jN cF];refine FD (I7.ok.frames.trans (congrArg some hst)) hF hfr he' hd (tb.imp id λ⟨T,oT,ts,q1,q2,q3,q4,q5,_⟩=>⟨T,oT,ts,q1,q2,q3,q4,q5⟩) λh1 old ho N=>?_;have oldC:old≠.ref s3.heap.objs.size:=λz=>by
   rcases tb with q|⟨T,oT,ts,q1,q2,q3,q4,q5,q6,q7⟩
   ·rw[ho,z]at q;cases q
   ·rw[ho,z]at q1;cases q1;rw[q7]at hoK;cases hoK
  obtain⟨I8,f8⟩:=cY hfs hex I3 I7 fl3 he' hd ho N ks;have hC1:h1.get? s3.heap.objs.size=some oC:=N.keep _ _ Cx' oldC CF hoC;obtain⟨oe1,vs1,T1,oT1,ts1,q1,q2,q3,q4,q5,q6,q7,q8,q9,q10⟩:=N.obj;have T1C:T1≠s3.heap.objs.size:=λz=>by
   rcases q10 with q|q
   ·rw[z,hoC]at q;cases q
   ·exact oldC (by rw[q,z])
  refine⟨mC,⟨oC,esC,epC,hC1,rC⟩,λh2 sb cenv' hcl'=>?_⟩;obtain⟨z0,z1,z2,z3,z4,z5⟩:=I3.fpOk (Nat.le_refl _) nC;have I9:j7 X pins σ H'' { s'' with heap:=h2 }:=I8.turned (t':=s''.toks) (λb o hb e=>(sb.2 b hb).trans e) z0 z1 z3 z4 z5;have x2:h2.get? x=some oe1:=(sb.2 x (λz=>Cx' z.symm)).trans q1;have t2:h2.get? T1=some oT1:=(sb.2 T1 T1C).trans q7;have ks2:∀ b o,s3.heap.get? b=some o->∃ o',h2.get? b=some o':=λb o q=>by
   have hb:b≠s3.heap.objs.size:=Nat.ne_of_lt (Heap.lt_size q);obtain⟨o1,e1⟩:=ks b o q;obtain⟨o2,e2⟩:=N.there b o1 e1;exact⟨o2,(sb.2 b hb).trans e2⟩
  have f9:qR s3.heap H'' h2 x cls od:=by
   obtain⟨g1,g2,oe',vs',e1,e2,e3,e4,e5⟩:=f8;have:oe'=oe1:=Option.some.inj (e1.symm.trans q1);subst this;have hv:vs'=vs1:=by
    have:=e4.symm.trans q4;injection this
   subst hv;rcases e5 with e5|⟨T',oT',ts',u1,u2,u3,u4,u5,u6,u7⟩
   ·rw[q5]at e5;cases e5
   ·have hT':T1=T':=by
     have:=q5.symm.trans u1;injection this with this;injection this
    subst hT';exact⟨g1,g2,oe',vs',x2,e2,e3,e4,.inr ⟨T1,oT1,ts1,q5,q6,t2,q8,q9,u6,u7⟩⟩
  unfold PySem.passOn;refine wpAny_bind (wpAny_field x2 q4 q5 ?_);rw[if_neg (show ¬ ((Value.ref T1==Value.none)=true) by simp)];refine wpAny_bind (Am (fs:=(X.env::X.outer).filterMap (·.frame)) x2 q4 q5 q6 t2 q8 q9 λh3 N3=>?_);obtain⟨I10,f10⟩:=cY hfs hex I3 I9 f9 x2 q4 q5 N3 ks2;refine wpAny_throw ?_;exact hT pins σ H3 s3 σ H'' _ x cls od I3 I10 (λb o q=>let⟨o',e'⟩:=ks2 b o q;N3.there b o' e') f10 hE
 have loop:codeAny (model X.prog X.w) X.A (.compLoop (.ListComp elt [⟨tg,iter,ifs,0⟩] scope pos) 0 (.ref it) (.ref D) ce) (compPost (model X.prog X.w) X.A X.xe use Qf (.ref D) s3.heap.objs.size) s4:=by
  refine fo (λn s'=>∃ i H',j7 (X.blk s3 H3 scope ce fp) [] (K6 σ (own.map (·.2))) H' s'/\tn i s'.heap/\(∀ b∈fp,H' b=none)/\W i n H') ?_ m0 ⟨0,H3,I4,st4,nfp,w0⟩;rintro n s5 ⟨i,H5,I5,st5,n5,w5⟩;rcases turn i n H5 w5 with⟨stop,qq⟩|⟨go,Nx,hNx,step⟩
  ·have td:=T.done (X.blk s3 H3 scope ce fp) rfl rfl rfl hc i [] s5 _ H5 (λ_ _=>False) I5 (stat I5 n5) st5 stop;refine iy td λr s6 ⟨hr,I6⟩=>?_;subst hr;have I7:j7 X pins σ H5 s6:=I3.call' (ch:=fp) I6.os I6.base I6.hok I6.bare λb hb=>⟨(f3 b hb).1.2.2.2.1,(f3 b hb).1.2.1,(f3 b hb).1.2.2.2.2.1,(f3 b hb).1.2.2.2.2.2⟩;have nC:H5 s3.heap.objs.size=none:=by
    have z:H5 ce.locals=none:=I6.free;rw[cL]at z;exact z
   obtain⟨m,hn,_⟩:=I6.loc;have hn:s6.heap.Ns ce.locals m:=hn;rw[cL]at hn;exact hRR D s3.heap.objs.size s6 m H5 I7 qq hn (I3.fpOk (Nat.le_refl _) nC)
  ·have ti:=T.item (X.blk s3 H3 scope ce fp) rfl rfl rfl hc i [] s5 _ H5 (λ_ _=>False) I5 (stat I5 n5) st5 go;refine iy ti λr s6 ⟨u,hr,h6⟩=>?_;subst hr;refine iy h6 λ_ s7 ⟨x,H7,I7,r7,y7,st7,n7⟩=>?_;have I7':=I7.pinned (stat I7 n7) (T.obj _ _ st7);refine iy (pg _ s7 _ H7 x u _ I7' r7 (step x H7 y7)) λ_ s8 ⟨σ8,H8,I8,hw8,q8⟩=>?_;refine iy (pt _ s8 σ8 H8 _ I8 q8) λb s9 ⟨H9,I9,q9⟩=>?_;have fin:∀ {s':Shared}{H':Hp},j7 (X.blk s3 H3 scope ce fp) ([]++Y1 fp s7.heap) σ8 H' s'->Nx H'->∃ m,m<n/\∃ i H',j7 (X.blk s3 H3 scope ce fp) [] (K6 σ (own.map (·.2))) H' s'/\tn i s'.heap/\(∀ b∈fp,H' b=none)/\W i m H':=λ{s' H'} I' nx=>by
    obtain⟨m',hm,w'⟩:=hNx H' nx;have pin':∀ b∈fp,∀ o,s7.heap.get? b=some o->s'.heap.get? b=some o/\H' b=none:=λb hb o e =>
     let z:=I'.pin (b,o) (List.mem_append_right _ (List.mem_append_right _ (U5 hb e)))
     ⟨z.1,z.2.1⟩
    have hl:(K6 σ (own.map (·.2))).length=σ8.length:=by rw[<-hw8,V3]
    refine⟨m',hm,i+1,H',(I'.unpinned (pins:=[])).weak hl (λj v e=>?_),T.keep _ _ _ st7 λb hb o e=>(pin' b hb o e).1,λb hb=>?_,w'⟩
    ·rw[<-hw8]at e;exact(cJ e).1
    ·obtain⟨o,e,_⟩:=T.obj _ _ st7 b hb;exact(pin' b hb o e).2
   cases b with
   |false =>
    simp only[Bool.false_eq_true,if_false]at q9⊢;exact fin I9 q9
   |true =>
    simp only[if_true]at q9⊢;have pe:=pe _ (Y1 fp s7.heap) (pass (Y1 fp s7.heap) λb hb=>let⟨o,e,_⟩:=T.obj _ _ st7 b hb;⟨o,U5 hb e⟩);have I9':j7 (X.blk s3 H3 scope ce fp) (Y1 fp s7.heap) σ8 H9 s9:=I9;refine B9 (pe _ s9 σ8 H9 _ I9'.tryb q9) λz s10 ⟨yv,H10,I10',r10,acc,hD10,hz10,nx⟩=>?_;have I10:j7 (X.blk s3 H3 scope ce fp) ([]++Y1 fp s7.heap) σ8 H10 s10:=j7.untryb I4.ok I10';exact yr (X:=X.blk s3 H3 scope ce fp) I10 hD10 hz10 r10 λs11 I11=>fin I11 nx
 exact codeAny_compStart_list loop (T.self X.A 0 _ _ _ st4 loop)
theorem cN {E:XK}{i:Nat}{y:Str}{py:Pos}{elt tg iter:Expr}{ifs:List Expr}{scope:Scope}{own:List (Str×Nat)}{pos spos:Pos}{wi:TI}{g:TG}{tt:TT}{te:TE}(hT:AF X E)(hst:X.stack=X.env::X.outer)(hfr:X.env.frame=some X.env.locals)(hex:X.ex=[])(hc:X.calm=true)(hN:X.N.Nodup)(hy:X.N[i]?=some y)(hyl:X.env.scope.names.lookup y=some .local)
  (hsw:swapsWith (.ListComp elt [⟨tg,iter,ifs,0⟩] scope pos) (some (.Name y py)) spos.line X.env=pure true) (hi:PI X tg iter wi) (ok:jJ X.N X.env.scope scope own)
  (hg:∀ (s:Shared) (H:Hp) (C:Addr) (cl:List (Str×Addr)) (fp:List Addr),PG (X.blk s H scope (compEnvC scope cl C X.env) fp) tg g) (ht:∀ (s:Shared) (H:Hp) (C:Addr) (cl:List (Str×Addr)) (fp:List Addr),EI (X.blk s H scope (compEnvC scope cl C X.env) fp) ifs tt)
  (he:∀ (s:Shared) (H:Hp) (C:Addr) (cl:List (Str×Addr)) (fp:List Addr) (xe:Value->Shared->Prop) (pn:List (Addr×Obj)),F6 (A7 X.prog X.w) ((X.blk s H scope (compEnvC scope cl C X.env) fp).tryb xe pn) E->PE ((X.blk s H scope (compEnvC scope cl C X.env) fp).tryb xe pn) elt te) (hs:∀ x,foldedSetIterable iter X.env x=pure x:=by intro _;rfl) :
  PS X (.Assign [.Name y py] (.ListComp elt [⟨tg,iter,ifs,0⟩] scope pos) spos) (BE (BB wi g tt te (own.map (·.2))) (dw i)):=by
 intro pins s σ H D I h;rw[exec_Assign_Name_used _ _ _ _ hsw];refine wpAny_bind (wpAny_standAt (wpAny_bind ?_));show wpAny _ X.A (do let _ ← comprehension (.ListComp elt [⟨tg,iter,ifs,0⟩] scope pos) scope X.env (firstIterPos [⟨tg,iter,ifs,0⟩] pos) (newList []) false (eval iter X.env) (some (assign (.Name y py) X.env))) _ _ s;have h:BB wi g tt te (own.map (·.2)) σ H (λx H1=>dw i x σ H1 D.nx):=h;refine wpAny_bind (B9 (xE (Qf:=λ_ s'=>SP X pins D .next s') hT hst hfr hex hc hN I hi ok hg ht he hs h λL C s' m H' I' q hn f=>?_) λ_ s' hq=>wpAny_pure (wpAny_pure hq));show wpAny _ _ (assign (.Name y py) X.env (.ref L)) _ _ _;refine wpAny_assign_Name (cK (v:=V.ref L) I' hN hy (.inl hyl) rfl (λs2 I2 ⟨a,sb,ha⟩=>?_) (.inr hyl));obtain⟨f0,f1,f2,f3,f4,f5⟩:=f;have haC:C≠a:=by
  rcases ha with z|z
  ·rw[z];exact f1
  ·exact λe=>f4 y a z e.symm
 refine⟨m,hn.sameBut sb haC,λh3 sb3=>?_⟩;exact⟨_,H',I2.turned (t':=s2.toks) (λb o hb e=>(sb3.2 b hb).trans e) f0 f1 f3 f4 f5,q⟩
end
abbrev Y6 (h:Heap)(z TI TO a:Addr)(f:Bool):Prop :=
 h.get? z=some { cls:=.type "zip",dict:=none,data:=.fields #[rawInt a,.bool f,.bool false,.ref TI,.ref TO],slots:=#[] }
section
variable {prog:Program}{w:World}{A:Around}{E:Value->Shared->Prop}{s:Shared}
theorem qS {z TI TO a:Addr}{f:Bool}{oa:Obj}{Q:Bool->Shared->Prop}(hz:Y6 s.heap z TI TO a f)(ha:s.heap.get? a=some oa)(hQ:∀ h',Y6 h' z TI TO a true->Heap.SameBut z s.heap h'->Q false { s with heap:=h' }):wpAny (model prog w) A (Builtin.SmallTypes.ownedTupleIsFree (.ref z)) Q E s:=by
 unfold Builtin.SmallTypes.ownedTupleIsFree;refine wpAny_bind (wpAny_field hz rfl (x:=rawInt a) rfl ?_);show wpAny _ _ (loadIfAlive ((a:Int).toNat) >>= _) _ _ _;rw[Int.toNat_natCast];refine wpAny_bind (W.kdx_alive ha ?_);simp only[Option.isNone_some,Bool.false_eq_true,if_false];refine wpAny_bind (wpAny_field hz rfl (x:=.bool f) rfl ?_);cases f with
 |true =>
  rw[if_neg (show ¬ ((Value.bool true !=Value.bool true)=true) from Bool.false_ne_true)];exact wpAny_pure (hQ _ hz (Heap.SameBut.refl _ _))
 |false =>
  rw[if_pos (show(Value.bool false !=Value.bool true)=true from rfl)];refine wpAny_bind (wpAny_setField_rec hz (by simp) λh₃ he₃ hs₃=>?_);exact wpAny_pure (hQ _ he₃ hs₃)
theorem sZ {z TI TO i1 i2 l1 l2 a:Addr}{f:Bool}{oa:Obj}{k1 k2:Nat}{xs ys:Array Value}{x y:Value}{Q:Value->Shared->Prop}(D:ZipApart z TI TO i1 i2 l1 l2)(az:a≠z)
  (hz:Y6 s.heap z TI TO a f) (ha:s.heap.get? a=some oa) (hTI:IsPair s.heap TI (.ref i1) (.ref i2))
  (h1:s.heap.IsListIter i1 l1 k1) (h2:s.heap.IsListIter i2 l2 k2) (hl1:s.heap.IsList l1 xs) (hl2:s.heap.IsList l2 ys) (hx:xs[k1]?=some x) (hy:ys[k2]?=some y)
  (hQ:∀ h',Y6 h' z TI TO a true->h'.IsListIter i1 l1 (k1+1)->h'.IsListIter i2 l2 (k2+1)->IsPair h' s.heap.objs.size x y->h'.objs.size=s.heap.objs.size+1 ->
   (∀ c o,c≠z->c≠TO->c≠i1->c≠i2->s.heap.get? c=some o->h'.get? c=some o)->Q (.ref s.heap.objs.size) { s with heap:=h' }) :
  wpAny (model prog w) A (Builtin.«zip.__next__» ⟨[.ref z],[]⟩) (λfin s'=>∃ v,fin=.done (.ret v)/\Q v s') E s:=by
 show wpAny _ _ (field (.ref z) 2 >>= _) _ _ _;refine wpAny_bind (wpAny_field hz rfl (x:=.bool false) rfl ?_);show wpAny _ _ (field (.ref z) 3 >>= _) _ _ _;refine wpAny_bind (wpAny_field hz rfl (x:=.ref TI) rfl ?_);refine wpAny_bind (wpAny_seqItems hTI rfl ?_);show wpAny _ _ (Builtin.SmallTypes.ownedTupleIsFree (.ref z) >>= _) _ _ _;refine wpAny_bind (qS hz ha λh₁ hz₁ hs₁=>?_);simp only[Bool.false_eq_true,if_false];simp only[List.forIn_toArray,List.forIn_cons,List.forIn_nil];refine wpAny_bind (wpAny_bind (wpAny_bind (wpAny_holding ?_)));show wpAny _ _ (Builtin.SmallTypes.nextOf (.ref i1) >>= _) _ _ _;refine wpAny_bind (wpAny_nextOf_list_item (h1.extBut hs₁.extBut D.i1z) (hl1.extBut hs₁.extBut D.l1z) hx λh₂ h1₂ hs₂=>wpAny_pure (wpAny_pure ?_));refine wpAny_bind (wpAny_bind (wpAny_holding ?_));show wpAny _ _ (Builtin.SmallTypes.nextOf (.ref i2) >>= _) _ _ _;refine wpAny_bind (wpAny_nextOf_list_item ((h2.extBut hs₁.extBut D.i2z).extBut hs₂.extBut D.i12.symm) ((hl2.extBut hs₁.extBut D.l2z).extBut hs₂.extBut D.l2i1) hy λh₃ h2₃ hs₃=>wpAny_pure (wpAny_pure (wpAny_pure ?_)));refine wpAny_bind (wpAny_newTuple (hsz:=by show 2<=sizeLine;decide) ?_);have hsz:h₃.objs.size=s.heap.objs.size:=by rw[hs₃.1,hs₂.1,hs₁.1]
 have hz₃:Y6 h₃ z TI TO a true:=hs₃.extBut _ _ D.i2z.symm (hs₂.extBut _ _ D.i1z.symm hz₁);have k₃:∀ c o,c≠z->c≠i1->c≠i2->s.heap.get? c=some o->h₃.get? c=some o:=λc o c1 c3 c4 e=>hs₃.extBut _ _ c4 (hs₂.extBut _ _ c3 (hs₁.extBut _ _ c1 e));have h1₃:h₃.IsListIter i1 l1 (k1+1):=h1₂.extBut hs₃.extBut D.i12;refine wpAny_pure ⟨_,rfl,?_⟩;show Q (.ref h₃.objs.size) _;have hT:(h₃.push { cls:=.type "tuple",data:=.seq #[x,y] }).get? h₃.objs.size=some { cls:=.type "tuple",data:=.seq #[x,y] }:=Heap.get?_push_size _ rfl;have hs:(h₃.push { cls:=.type "tuple",data:=.seq #[x,y] }).objs.size=h₃.objs.size+1:=Heap.size_push ..;rw[hsz]at hT hs⊢;exact hQ _ (Heap.get?_push_of_some _ hz₃) (h1₃.at λo e=>Heap.get?_push_of_some _ e) (h2₃.at λo e=>Heap.get?_push_of_some _ e) hT hs λc o c1 _ c3 c4 e=>Heap.get?_push_of_some _ (k₃ c o c1 c3 c4 e)
theorem vf {z TI TO i1 i2 l1 l2 a:Addr}{f:Bool}{oa:Obj}{k1 k2:Nat}{xs ys:Array Value}{Q:Fin->Shared->Prop}(hh:A.handled=none)(D:ZipApart z TI TO i1 i2 l1 l2)
  (hz:Y6 s.heap z TI TO a f) (ha:s.heap.get? a=some oa) (hTI:IsPair s.heap TI (.ref i1) (.ref i2))
  (h1:s.heap.IsListIter i1 l1 k1) (h2:s.heap.IsListIter i2 l2 k2) (hl1:s.heap.IsList l1 xs) (hl2:s.heap.IsList l2 ys) (hend:xs[k1]?=none\/ys[k2]?=none)
  (hE:∀ h' e,(∀ c o,c≠z->c≠TO->c≠i1->c≠i2->s.heap.get? c=some o->h'.get? c=some o)->(∃ o,h'.get? e=some o/\o.cls=.type "StopIteration")->E (.ref e) { s with heap:=h' }) :
  wpAny (model prog w) A (Builtin.«zip.__next__» ⟨[.ref z],[]⟩) Q E s:=by
 show wpAny _ _ (field (.ref z) 2 >>= _) _ _ _;refine wpAny_bind (wpAny_field hz rfl (x:=.bool false) rfl ?_);show wpAny _ _ (field (.ref z) 3 >>= _) _ _ _;refine wpAny_bind (wpAny_field hz rfl (x:=.ref TI) rfl ?_);refine wpAny_bind (wpAny_seqItems hTI rfl ?_);show wpAny _ _ (Builtin.SmallTypes.ownedTupleIsFree (.ref z) >>= _) _ _ _;refine wpAny_bind (qS hz ha λh₁ hz₁ hs₁=>?_);simp only[Bool.false_eq_true,if_false];simp only[List.forIn_toArray,List.forIn_cons,List.forIn_nil];refine wpAny_bind (wpAny_bind (wpAny_bind (wpAny_holding ?_)));show wpAny _ _ (Builtin.SmallTypes.nextOf (.ref i1) >>= _) _ _ _;cases hx:xs[k1]? with
 |none =>
  refine wpAny_bind (wpAny_nextOf_list_end hh (h1.extBut hs₁.extBut D.i1z) (hl1.extBut hs₁.extBut D.l1z) hx λh₂ e hs₂ he=>?_);exact hE h₂ e (λc o c1 _ c3 _ x=>hs₂ _ _ c3 (hs₁.extBut _ _ c1 x)) he
 |some x =>
  have hy:ys[k2]?=none:=by rcases hend with h|h;rw[hx]at h;cases h;exact h
  refine wpAny_bind (wpAny_nextOf_list_item (h1.extBut hs₁.extBut D.i1z) (hl1.extBut hs₁.extBut D.l1z) hx λh₂ h1₂ hs₂=>wpAny_pure (wpAny_pure ?_));refine wpAny_bind (wpAny_bind (wpAny_holding ?_));show wpAny _ _ (Builtin.SmallTypes.nextOf (.ref i2) >>= _) _ _ _;refine wpAny_bind (wpAny_nextOf_list_end hh ((h2.extBut hs₁.extBut D.i2z).extBut hs₂.extBut D.i12.symm) ((hl2.extBut hs₁.extBut D.l2z).extBut hs₂.extBut D.l2i1) hy λh₃ e hs₃ he=>?_);exact hE h₃ e (λc o c1 _ c3 c4 x=>hs₃ _ _ c4 (hs₂.extBut _ _ c3 (hs₁.extBut _ _ c1 x))) he
theorem jg {z TI TO i1 i2 l1 l2 a:Addr}{f:Bool}{oa:Obj}{k1 k2:Nat}{xs ys:Array Value}{x y:Value}{Q:Option Value->Shared->Prop}(D:ZipApart z TI TO i1 i2 l1 l2)(az:a≠z)
  (hz:Y6 s.heap z TI TO a f) (ha:s.heap.get? a=some oa) (hTI:IsPair s.heap TI (.ref i1) (.ref i2))
  (h1:s.heap.IsListIter i1 l1 k1) (h2:s.heap.IsListIter i2 l2 k2) (hl1:s.heap.IsList l1 xs) (hl2:s.heap.IsList l2 ys) (hx:xs[k1]?=some x) (hy:ys[k2]?=some y)
  (hQ:∀ h',Y6 h' z TI TO a true->h'.IsListIter i1 l1 (k1+1)->h'.IsListIter i2 l2 (k2+1)->IsPair h' s.heap.objs.size x y->h'.objs.size=s.heap.objs.size+1 ->
   (∀ c o,c≠z->c≠TO->c≠i1->c≠i2->s.heap.get? c=some o->h'.get? c=some o)->Q (some (.ref s.heap.objs.size)) { s with heap:=h' }) :
  wpAny (model prog w) A (pyNext (.ref z)) Q E s:=by
 have hT:s.TypeIs (.ref z) "zip":=⟨_,hz,rfl⟩;unfold pyNext;exact wpAny_bind (wpAny_attempt (wpAny_callSpecial?_slot (name:=Str.ofString "__next__") hT PySem.F.slot_zip_next
  (wpAny_call_entry PySem.F.slot_zip_next hT PySem.F.entry_zip_next
   (sZ D az hz ha hTI h1 h2 hl1 hl2 hx hy λh' a1 a2 a3 a4 a5 a6=>wpAny_pure (hQ h' a1 a2 a3 a4 a5 a6)) (PySem.F.args_zip_next_1 _))))
theorem jO {z TI TO i1 i2 l1 l2 a:Addr}{f:Bool}{oa:Obj}{k1 k2:Nat}{xs ys:Array Value}{Q:Option Value->Shared->Prop}(hh:A.handled=none)(D:ZipApart z TI TO i1 i2 l1 l2)
  (hz:Y6 s.heap z TI TO a f) (ha:s.heap.get? a=some oa) (hTI:IsPair s.heap TI (.ref i1) (.ref i2))
  (h1:s.heap.IsListIter i1 l1 k1) (h2:s.heap.IsListIter i2 l2 k2) (hl1:s.heap.IsList l1 xs) (hl2:s.heap.IsList l2 ys) (hend:xs[k1]?=none\/ys[k2]?=none)
  (hQ:∀ h',(∀ c o,c≠z->c≠TO->c≠i1->c≠i2->s.heap.get? c=some o->h'.get? c=some o)->Q none { s with heap:=h' }):wpAny (model prog w) A (pyNext (.ref z)) Q E s:=by
 have hT:s.TypeIs (.ref z) "zip":=⟨_,hz,rfl⟩;unfold pyNext;refine wpAny_bind (wpAny_attempt (wpAny_callSpecial?_slot (name:=Str.ofString "__next__") hT PySem.F.slot_zip_next
  (wpAny_call_entry PySem.F.slot_zip_next hT PySem.F.entry_zip_next (vf hh D hz ha hTI h1 h2 hl1 hl2 hend λh' e hk he=>?_) (PySem.F.args_zip_next_1 _))))
 obtain⟨o,ho,hc⟩:=he;refine wpAny_bind (wpAny_isInstance (T:="StopIteration") (b:=true) ⟨o,ho,hc⟩ isSubtype_stop ?_);exact wpAny_pure (hQ _ hk)
def AE (h:Heap)(z TI TO i1 i2 S l1 l2:Addr)(i:Nat):Prop :=
 IsPair h TI (.ref i1) (.ref i2)/\h.IsListIter i1 l1 i/\h.IsListIter i2 l2 i/\((IsZip h z TI TO .none/\∃ x y,IsPair h TO x y)\/∃ a f oa,Y6 h z TI TO a f/\h.get? a=some oa/\a≠z/\a≠TO/\a≠i1/\a≠i2/\a≠S)
theorem AE.keep {h h':Heap}{z TI TO i1 i2 S l1 l2:Addr}{i:Nat}(st:AE h z TI TO i1 i2 S l1 l2 i)(hk:∀ b o,b≠S->h.get? b=some o->h'.get? b=some o)(hS:S∉[z,TI,TO,i1,i2]):AE h' z TI TO i1 i2 S l1 l2 i:=by
 simp only[List.mem_cons,List.not_mem_nil,or_false,not_or]at hS;obtain⟨s1,s2,s3,s4,s5⟩:=hS;obtain⟨a1,a2,a3,a4⟩:=st;refine⟨hk _ _ (Ne.symm s2) a1,a2.at λo e=>hk _ _ (Ne.symm s4) e,a3.at λo e=>hk _ _ (Ne.symm s5) e,?_⟩;rcases a4 with⟨b1,x,y,b2⟩|⟨a,f,oa,b1,b2,b3,b4,b5,b6,b7⟩
 ·exact .inl ⟨hk _ _ (Ne.symm s1) b1,x,y,hk _ _ (Ne.symm s3) b2⟩
 ·exact .inr ⟨a,f,oa,hk _ _ (Ne.symm s1) b1,hk _ _ b7 b2,b3,b4,b5,b6,b7⟩
theorem uX {z TI TO i1 i2 S l1 l2:Addr}{i:Nat}{xs ys:Array Value}{x y:Value}{Q:Option Value->Shared->Prop}(D:ZipApart z TI TO i1 i2 l1 l2)(hSl:S<s.heap.objs.size)
  (st:AE s.heap z TI TO i1 i2 S l1 l2 i) (hl1:s.heap.IsList l1 xs) (hl2:s.heap.IsList l2 ys) (hx:xs[i]?=some x) (hy:ys[i]?=some y)
  (hQ:∀ h',AE h' z TI TO i1 i2 S l1 l2 (i+1)->IsPair h' s.heap.objs.size x y ->
   (∀ c o,c≠z->c≠TO->c≠i1->c≠i2->s.heap.get? c=some o->h'.get? c=some o)->Q (some (.ref s.heap.objs.size)) { s with heap:=h' }) :
  wpAny (model prog w) A (pyNext (.ref z)) Q E s:=by
 obtain⟨hTI,h1,h2,hz⟩:=st;have l1':i1<s.heap.objs.size:=by obtain⟨_,e,_⟩:=h1;exact Heap.lt_size e
 have l2':i2<s.heap.objs.size:=by obtain⟨_,e,_⟩:=h2;exact Heap.lt_size e
 rcases hz with⟨hz,_,_,hTO⟩|⟨a,f,oa,hz,ha,b3,b4,b5,b6,b7⟩
 ·refine wpAny_pyNext_zip_item D hz hTI hTO h1 h2 hl1 hl2 hx hy λh' z' TO' h1' h2' hT hsz hk=>?_;exact hQ h' ⟨hk _ _ D.TIz D.TITO D.TIi1 D.TIi2 hTI,h1',h2',.inr ⟨_,_,_,z',hT,Nat.ne_of_gt (Heap.lt_size hz),Nat.ne_of_gt (Heap.lt_size hTO),Nat.ne_of_gt l1',Nat.ne_of_gt l2',Nat.ne_of_gt hSl⟩⟩ hT hk
 ·refine jg D b3 hz ha hTI h1 h2 hl1 hl2 hx hy λh' z' h1' h2' hT hsz hk=>?_;exact hQ h' ⟨hk _ _ D.TIz D.TITO D.TIi1 D.TIi2 hTI,h1',h2',.inr ⟨a,_,_,z',hk _ _ b3 b4 b5 b6 ha,b3,b4,b5,b6,b7⟩⟩ hT hk
theorem uY {z TI TO i1 i2 S l1 l2:Addr}{i:Nat}{xs ys:Array Value}{Q:Option Value->Shared->Prop}(hh:A.handled=none)(D:ZipApart z TI TO i1 i2 l1 l2)
  (st:AE s.heap z TI TO i1 i2 S l1 l2 i) (hl1:s.heap.IsList l1 xs) (hl2:s.heap.IsList l2 ys) (he:xs[i]?=none\/ys[i]?=none)
  (hQ:∀ h',(∀ c o,c≠z->c≠TO->c≠i1->c≠i2->s.heap.get? c=some o->h'.get? c=some o)->Q none { s with heap:=h' }) :
  wpAny (model prog w) A (pyNext (.ref z)) Q E s:=by
 obtain⟨hTI,h1,h2,hz⟩:=st;rcases hz with⟨hz,_,_,hTO⟩|⟨a,f,oa,hz,ha,b3,b4,b5,b6,b7⟩
 ·exact wpAny_pyNext_zip_end hh D hz hTI hTO h1 h2 hl1 hl2 he hQ
 ·exact jO hh D hz ha hTI h1 h2 hl1 hl2 he hQ
end
def gL (l:Addr)(Q:VK):List V->List V->List V->Hp->Prop
 |x::xs,y::ys,acc,H=>∀ T,H T=none->gL l Q xs ys (acc++[.ref T]) (i8 (i8 H T (.tup [x,y])) l (.lst (acc++[.ref T])))
 |_,_,_,H=>Q (.ref l) H
theorem C9.other {K:W.Frag}{H:Hp}{a p:Addr}{o:HO}{xs:List V}(h:C9 K H a xs)(n:a≠p):C9 K (i8 H p o) a xs:=by
 rcases h with(h|⟨o',h⟩)|h
 ·exact .inl (.inl (by rw[i0 n];exact h))
 ·exact .inl (.inr ⟨o',by rw[i0 n];exact h⟩)
 ·exact .inr h
theorem uZ {X:Cx}{pins:List (Addr×Obj)}{σ:St}{A:Around}{Q:VK}{z TI TO i1 i2 S l1 l2:Addr}{xs ys:List V}(hh:A.handled=none)(D:ZipApart z TI TO i1 i2 l1 l2)(hS:S∉[z,TI,TO,i1,i2])(n1:l1≠S)(n2:l2≠S) :
  ∀ (rx ry:List V) (i:Nat) (s:Shared) (H:Hp) (acc:List V),xs.drop i=rx->ys.drop i=ry->acc.length=i->j7 X pins σ H s->H S=some (.lst acc)->AE s.heap z TI TO i1 i2 S l1 l2 i->(∀ b∈[z,TI,TO,i1,i2],bL X pins H b/\b<s.heap.objs.size)->C9 X.K H l1 xs->C9 X.K H l2 ys->gL S Q rx ry acc H ->
   codeAny (model X.prog X.w) A (.builtin "list.extend.loop" ⟨[.ref S,.ref z,.none],[]⟩) (wants (λr s'=>r=.none/\EP X pins σ Q (.ref S) s') X.xe) s:=by
 have stop:∀ (rx ry:List V) (i:Nat) (s:Shared) (H:Hp) (acc:List V),(xs[i]?=none\/ys[i]?=none)->j7 X pins σ H s->H S=some (.lst acc)->AE s.heap z TI TO i1 i2 S l1 l2 i->(∀ b∈[z,TI,TO,i1,i2],bL X pins H b/\b<s.heap.objs.size)->C9 X.K H l1 xs->C9 X.K H l2 ys->Q (.ref S) H ->
   codeAny (model X.prog X.w) A (.builtin "list.extend.loop" ⟨[.ref S,.ref z,.none],[]⟩) (wants (λr s'=>r=.none/\EP X pins σ Q (.ref S) s') X.xe) s:=by
  intro rx ry i s H acc he I hSH st hf q1 q2 q;obtain⟨its,rv,p,_⟩:=I.list q1;obtain⟨its2,rv2,p2,_⟩:=I.list q2;have l1:=rv.length;have l2:=rv2.length;refine codeAny_builtin PySem.F.entry_extend_loop ?_;rw[Around.under_plainId PySem.F.plain_extend_loop _];show wpAny _ A.in1 (pyNext (.ref z) >>= _) _ _ _;have he':its.toArray[i]?=none\/its2.toArray[i]?=none:=by
   rcases he with e|e
   ·exact .inl (by rw[List.getElem?_eq_none_iff]at e;simp;omega)
   ·exact .inr (by rw[List.getElem?_eq_none_iff]at e;simp;omega)
  refine wpAny_bind (uY (A:=A.in1) hh D st p.isList p2.isList he' λh' hk=>?_);refine wpAny_pure ⟨rfl,.ref S,H,I.turnedL (t':=s.toks) (ch:=[z,TI,TO,i1,i2]) (λc o hb q=>hk c o (λq'=>hb (by simp[q'])) (λq'=>hb (by simp[q'])) (λq'=>hb (by simp[q'])) (λq'=>hb (by simp[q'])) q) (λb hb=>(hf b hb).1),rfl,q⟩
 intro rx
 induction rx with
 |nil =>
  intro ry i s H acc hx hy hl I hSH st hf q1 q2 q;refine stop [] ry i s H acc (.inl ?_) I hSH st hf q1 q2 (by unfold gL at q;exact q);rw[List.getElem?_eq_none_iff];exact List.drop_eq_nil_iff.mp hx
 |cons x rx ih =>
  intro ry i s H acc hx hy hl I hSH st hf q1 q2 q;cases ry with
  |nil =>
   refine stop [] [] i s H acc (.inr ?_) I hSH st hf q1 q2 (by unfold gL at q;exact q);rw[List.getElem?_eq_none_iff];exact List.drop_eq_nil_iff.mp hy
  |cons y ry =>
   have hxi:xs[i]?=some x:=by rw[<-List.head?_drop,hx];rfl
   have hyi:ys[i]?=some y:=by rw[<-List.head?_drop,hy];rfl
   have hx':xs.drop (i+1)=rx:=by rw[<-List.tail_drop,hx];rfl
   have hy':ys.drop (i+1)=ry:=by rw[<-List.tail_drop,hy];rfl
   obtain⟨its,rv,p,hzz⟩:=I.list q1;obtain⟨its2,rv2,p2,_⟩:=I.list q2;obtain⟨u,hu,ru⟩:=rv.get hxi;obtain⟨u2,hu2,ru2⟩:=rv2.get hyi;obtain⟨hz0,itS,nS,rS,eS⟩:=I.hok S _ hSH;refine codeAny_builtin PySem.F.entry_extend_loop ?_;rw[Around.under_plainId PySem.F.plain_extend_loop _];show wpAny _ A.in1 (pyNext (.ref z) >>= _) _ _ _;refine wpAny_bind (uX (S:=S) D (Heap.lt_size eS) st p.isList p2.isList (x:=u) (y:=u2) (by simpa using hu) (by simpa using hu2) λh' st' hT hk=>?_);have hfr:H s.heap.objs.size=none:=I.hok.fresh (Nat.le_refl _);have new:y3 X.prog X.w (i8 H s.heap.objs.size (.tup [x,y])) h' s.heap.objs.size (.tup [x,y]) :=
    ⟨by show 2<=sizeLine;decide,[u,u2],.cons ru (.cons ru2 .nil),⟨_,hT,rfl,_,rfl⟩⟩
   have I1:j7 X pins σ (i8 H s.heap.objs.size (.tup [x,y])) { s with heap:=h' } :=
    I.turnedNew (t':=s.toks) (ch:=[z,TI,TO,i1,i2]) (λc o hb q=>hk c o (λq'=>hb (by simp[q'])) (λq'=>hb (by simp[q'])) (λq'=>hb (by simp[q'])) (λq'=>hb (by simp[q'])) q) (λb hb=>(hf b hb).1) (Nat.le_refl _) new
   have SneT:S≠s.heap.objs.size:=Nat.ne_of_lt (Heap.lt_size eS);have hSH1:(i8 H s.heap.objs.size (.tup [x,y])) S=some (.lst acc):=by rw[i0 SneT];exact hSH
   obtain⟨_,itS,nS,rS,eS1⟩:=I1.hok S _ hSH1;have hSl:=rS.length;have hlen:i<sizeLine:=Nat.lt_of_lt_of_le (List.getElem?_eq_some_iff.mp hxi).1 hzz;show wpAny _ A.in1 (updateSeq S (·.push (Value.ref s.heap.objs.size)) >>= _) _ _ _;refine wpAny_bind ?_;have eS2:=Heap.get?_update_self (Obj.mapSeq (·.push (Value.ref s.heap.objs.size))) eS1 rfl;have oth:∀ b o,b≠S->h'.get? b=some o->(h'.update S (Obj.mapSeq (·.push (Value.ref s.heap.objs.size)))).get? b=some o:=λb o hb e=>(Heap.get?_update_other _ _ (Ne.symm hb)).trans e;have I2:j7 X pins σ (i8 (i8 H s.heap.objs.size (.tup [x,y])) S (.lst (acc++[.ref s.heap.objs.size]))) { s with heap:=h'.update S (Obj.mapSeq (·.push (Value.ref s.heap.objs.size))) }:=by
    refine I1.write (t':=s.toks) (by rw[hSH1];trivial) (.inl rfl) oth ⟨_,eS2⟩ ⟨by rw[List.length_append];simp;omega,itS++[Value.ref s.heap.objs.size],nS+1,rS.append (.cons rfl .nil),?_⟩;rw[eS2];simp[Obj.mapSeq]
   refine wpAny_updateSeq eS1 rfl (wpAny_pure ⟨plainId_quiet PySem.F.plain_extend_loop _,ih ry (i+1) _ _ (acc++[.ref s.heap.objs.size]) hx' hy' (by rw[List.length_append,hl];rfl) I2 c9 (st'.keep (λb o hb e=>oth b o hb e) hS) (λb hb=>?_) ((q1.other (λz=>?_)).other n1) ((q2.other (λz=>?_)).other n2) (q _ hfr)⟩) (by simp;omega) (by simp;omega)
   ·obtain⟨⟨f0,f1⟩,flt⟩:=hf b hb;have bS:b≠S:=λz=>hS (z▸hb);refine⟨⟨?_,f1⟩,?_⟩
    ·rw[i0 bS,i0 (Nat.ne_of_lt flt)];exact f0
    ·show b<(h'.update S (Obj.mapSeq (·.push (Value.ref s.heap.objs.size)))).objs.size;have e1:=(Heap.SameBut.update (h:=h') S (Obj.mapSeq (·.push (Value.ref s.heap.objs.size)))).1;rw[e1];exact Nat.lt_trans flt (Heap.lt_size hT)
   ·rw[z]at p;exact Nat.lt_irrefl _ p.lt
   ·rw[z]at p2;exact Nat.lt_irrefl _ p2.lt
theorem By {H:Hp}{p:Addr}{o:HO}(h:H p=some o):i8 H p o=H:=by
 funext b
 by_cases q:b=p
 ·subst q;rw[c9,h]
 ·rw[i0 q]
theorem pK:typeLookup (.type "zip") "__len__"=pure none:=by rw[typeLookup_type,builtinLookup_eq_fast];kernel_rfl
theorem mY:typeLookup (.type "zip") "__length_hint__"=pure none:=by rw[typeLookup_type,builtinLookup_eq_fast];kernel_rfl
theorem va {X:Cx}{pins:List (Addr×Obj)}{σ:St}{A:Around}{Q:VK}{z TI TO i1 i2 S l1 l2:Addr}{xs ys:List V}{s:Shared}{H:Hp}(hh:A.handled=none)(D:ZipApart z TI TO i1 i2 l1 l2)(hS:S∉[z,TI,TO,i1,i2])(n1:l1≠S)(n2:l2≠S)
  (I:j7 X pins σ H s) (hSH:H S=some (.lst [])) (hz:IsZip s.heap z TI TO .none) (st:AE s.heap z TI TO i1 i2 S l1 l2 0) (hf:∀ b∈[z,TI,TO,i1,i2],bL X pins H b/\b<s.heap.objs.size) (q1:C9 X.K H l1 xs) (q2:C9 X.K H l2 ys) (q:gL S Q xs ys [] H) :
  wpAny (model X.prog X.w) A.in1 (Builtin.«list.__init__» ⟨[.ref S,.ref z],[]⟩)
   (λfin s'=>match fin with|.done f=>wants (λr s'=>r=.none/\EP X pins σ Q (.ref S) s') X.xe (.ok f) s'|.again c'=>c'.quiet=true/\codeAny (model X.prog X.w) A c' (wants (λr s'=>r=.none/\EP X pins σ Q (.ref S) s') X.xe) s') (λe s'=>wants (λr s'=>r=.none/\EP X pins σ Q (.ref S) s') X.xe (.error e) s') s:=by
 obtain⟨hz0,itS,nS,rS,eS⟩:=I.hok S _ hSH;cases rS;have Sz:S≠z:=λe=>hS (by simp[e]);show wpAny _ _ (do let old ← Builtin.List.listItems (.ref S);Builtin.List.listUpdate (.ref S) (λ_=>#[]);letGo old.toList.reverse;Builtin.List.listExtendWith (.ref S) (.ref z) .none) _ _ s;refine wpAny_bind ?_;unfold Builtin.List.listItems;refine wpAny_bind (wpAny_seqItems eS rfl (wpAny_pure ?_));show wpAny _ _ (updateSeq S (λ_=>#[]) >>= λ_=>letGo ([]:List Value).toArray.toList.reverse >>= λ_=>Builtin.List.listExtendWith (.ref S) (.ref z) .none) _ _ s;refine wpAny_bind (wpAny_updateSeq eS rfl ?_);have eS1:=Heap.get?_update_self (Obj.mapSeq (λ_=>(#[]:Array Value))) eS rfl;have o1:∀ b o,b≠S->s.heap.get? b=some o->(s.heap.update S (Obj.mapSeq (λ_=>(#[]:Array Value)))).get? b=some o:=λb o hb e=>(Heap.get?_update_other _ _ (Ne.symm hb)).trans e;have s1:=(Heap.SameBut.update (h:=s.heap) S (Obj.mapSeq (λ_=>(#[]:Array Value)))).1;refine wpAny_bind (wpAny_letGo ?_);generalize hh1:s.heap.update S (Obj.mapSeq (λ_=>(#[]:Array Value)))=h1 at eS1 o1 s1;unfold Builtin.List.listExtendWith;have hz1:IsZip h1 z TI TO .none:=o1 _ _ (Ne.symm Sz) hz;refine wpAny_bind (wpAny_typeOf (T:="zip") ⟨_,hz1,rfl⟩ ?_);have g1:Builtin.List.listSameRef (.ref S) (.ref z)=false:=by simp[Builtin.List.listSameRef,Sz]
 have g2:(Value.type "zip"==Value.type "list")=false:=by decide
 have g3:(Value.type "zip"==Value.type "tuple")=false:=by decide
 simp only[g1,g2,g3,Bool.or_false,Bool.false_eq_true,if_false];refine wpAny_bind (wpAny_pyIter_zip hz1 ?_);refine wpAny_bind (wpAny_holding ?_);unfold Builtin.List.listLengthHint;refine wpAny_bind (wpAny_specialOf (T:="zip") ⟨_,hz1,rfl⟩ pK ?_);show wpAny _ A.in1 (specialOf (Value.ref z) (Str.ofString "__length_hint__") >>= _) _ _ _;refine wpAny_bind (wpAny_specialOf (T:="zip") ⟨_,hz1,rfl⟩ mY ?_);refine wpAny_pure ?_;show wpAny _ A.in1 (rule "list.extend.makes-room" >>= λ_=>Builtin.List.listTouch (.ref S) >>= λ_ =>
  again (.builtin "list.extend.loop" ⟨[.ref S,.ref z,.none],[]⟩)) _ _ _
 refine wpAny_bind (wpAny_rule ?_);refine wpAny_bind ?_;show wpAny _ A.in1 (updateSeq S (·.push .none) >>= λ_=>updateSeq S (·.pop)) _ _ _;refine wpAny_bind (wpAny_updateSeq eS1 rfl ?_);have eS2:=Heap.get?_update_self (Obj.mapSeq (·.push Value.none)) eS1 rfl;refine wpAny_updateSeq (hz:=by seq_fits) eS2 rfl ?_;have eS3:=Heap.get?_update_self (Obj.mapSeq (·.pop)) eS2 rfl;have o2:∀ b o,b≠S->h1.get? b=some o->((h1.update S (Obj.mapSeq (·.push Value.none))).update S (Obj.mapSeq (·.pop))).get? b=some o :=
  λb o hb e=>(Heap.get?_update_other _ _ (Ne.symm hb)).trans ((Heap.get?_update_other _ _ (Ne.symm hb)).trans e)
 have s2:((h1.update S (Obj.mapSeq (·.push Value.none))).update S (Obj.mapSeq (·.pop))).objs.size=h1.objs.size:=by
  rw[(Heap.SameBut.update (h:=h1.update S (Obj.mapSeq (·.push Value.none))) S (Obj.mapSeq (·.pop))).1,(Heap.SameBut.update (h:=h1) S (Obj.mapSeq (·.push Value.none))).1]
 generalize hh3:(h1.update S (Obj.mapSeq (·.push Value.none))).update S (Obj.mapSeq (·.pop))=h3 at eS3 o2 s2;have o3:∀ b o,b≠S->s.heap.get? b=some o->h3.get? b=some o:=λb o hb e=>o2 b o hb (o1 b o hb e);have I3:j7 X pins σ (i8 H S (.lst [])) { s with heap:=h3 }:=I.write (t':=s.toks) (by rw[hSH];trivial) (.inl rfl) o3 ⟨_,eS3⟩ ⟨hz0,[],_,.nil,by rw[eS3];rfl⟩;rw[By hSH]at I3;exact wpAny_pure ⟨plainId_quiet PySem.F.plain_extend_loop _,uZ hh D hS n1 n2 xs ys 0 _ H [] rfl rfl rfl I3 hSH (st.keep o3 hS) (λb hb=>⟨(hf b hb).1,by show b<h3.objs.size;rw[s2,s1];exact(hf b hb).2⟩) q1 q2 q⟩
theorem qK:bootBuiltins "list"=some (.type "list"):=by decide +kernel
def Gg (K:W.Frag)(ta:TA):TE:=λσ H Q=>ta σ H λvs H1=>∃ a b xs ys,vs=[.ref a,.ref b]/\C9 K H1 a xs/\C9 K H1 b ys/\∀ l,H1 l=none->gL l Q xs ys [] (i8 H1 l (.lst []))
theorem jR {X:Cx}{pins:List (Addr×Obj)}{σ:St}{Q:VK}{l1 l2:Addr}{xs ys:List V}{s:Shared}{H:Hp}(hc:X.calm=true)(I:j7 X pins σ H s)(q1:C9 X.K H l1 xs)(q2:C9 X.K H l2 ys)(q:∀ l,H l=none->gL l Q xs ys [] (i8 H l (.lst []))) :
  wpAny (model X.prog X.w) X.A (call (.type "zip") [.ref l1,.ref l2]) (λz s'=>wpAny (model X.prog X.w) X.A (call (.type "list") [z]) (EP X pins σ Q) X.xe s') X.xe s:=by
 obtain⟨its,rv,p1,_⟩:=I.list q1;obtain⟨its2,rv2,p2,_⟩:=I.list q2;have la:l1<s.heap.objs.size:=p1.lt;have lb:l2<s.heap.objs.size:=p2.lt;refine call_zip_2 p1.isList p2.isList λh' hz hTI hTO h1 h2 hsz hk=>?_;have I2:j7 X pins σ H { s with heap:=h' }:=I.kept (t':=s.toks) hk;have hh:X.A.in1.handled=none:=I.ok.hd hc;refine callType_codes (Q₁:=λobj s₁=>obj=.ref h'.objs.size/\s₁={ s with heap:=h'.push { cls:=.type "list",data:=.seq #[] } }) PySem.F.called_list (PySem.F.typeCall_list_1 _) PySem.F.entry_list_init
  (code_list_new (s:={ s with heap:=h' }) _ ⟨rfl,rfl⟩) λobj s₁ h₁=>?_
 obtain⟨rfl,rfl⟩:=h₁;have hS:(h'.push { cls:=.type "list",data:=.seq #[] }).get? h'.objs.size=some { cls:=.type "list",data:=.seq #[] }:=Heap.get?_push_size _ rfl;have up:∀ b o,h'.get? b=some o->(h'.push { cls:=.type "list",data:=.seq #[] }).get? b=some o:=λb o e=>Heap.get?_push_of_some _ e;have hfr:H h'.objs.size=none:=I.hok.fresh (by rw[hsz];exact Nat.le_add_right _ _);have I3:j7 X pins σ (i8 H h'.objs.size (.lst [])) { s with heap:=h'.push { cls:=.type "list",data:=.seq #[] } }:=I2.laid (t':=s.toks) up (Nat.le_refl _) ⟨Nat.zero_le _,[],_,.nil,hS⟩;have mem:∀ b,b∈[s.heap.objs.size+4,s.heap.objs.size+2,s.heap.objs.size+3,s.heap.objs.size,s.heap.objs.size+1]->s.heap.objs.size<=b/\b<h'.objs.size:=by
  intro b hb;have e':b=s.heap.objs.size+4\/b=s.heap.objs.size+2\/b=s.heap.objs.size+3\/b=s.heap.objs.size\/b=s.heap.objs.size+1:=by simpa using hb
  rw[hsz];rcases e' with z|z|z|z|z<;>rw[z]<;>exact⟨by first|exact Nat.le_refl _|exact Nat.le_add_right _ _,by first|exact Nat.lt_add_of_pos_right (by decide)|exact Nat.add_lt_add_left (by decide) _⟩
 refine⟨⟨_,hS,rfl⟩,PySem.F.args_list_init_2 _ _,va (A:=X.A.in1) hh (W.ktu_apart s.heap.objs.size l1 l2 la lb) (λhb=>Nat.lt_irrefl _ (mem _ hb).2) (λe=>?_) (λe=>?_) I3 c9 (up _ _ hz) ⟨up _ _ hTI,h1.at λo e=>up _ _ e,h2.at λo e=>up _ _ e,.inl ⟨up _ _ hz,_,_,up _ _ hTO⟩⟩ (λb hb=>⟨?_,?_⟩) (q1.other λe=>?_) (q2.other λe=>?_) (q _ hfr)⟩
 ·rw[hsz]at e;rw[e]at la;exact absurd la (Nat.not_lt.mpr (Nat.le_add_right _ _))
 ·rw[hsz]at e;rw[e]at lb;exact absurd lb (Nat.not_lt.mpr (Nat.le_add_right _ _))
 ·exact I.fpOk (mem b hb).1 (by rw[i0 (Nat.ne_of_lt (mem b hb).2)];exact I.hok.fresh (mem b hb).1)
 ·show b<(h'.push { cls:=.type "list",data:=.seq #[] }).objs.size;rw[Heap.size_push];exact Nat.lt_succ_of_lt (mem b hb).2
 ·rw[hsz]at e;rw[e]at la;exact absurd la (Nat.not_lt.mpr (Nat.le_add_right _ _))
 ·rw[hsz]at e;rw[e]at lb;exact absurd lb (Nat.not_lt.mpr (Nat.le_add_right _ _))
theorem iX {X:Cx}{e e2:Expr}{ta:TA}{p p2 pos pos2:Pos}(hc:X.calm=true)(hgl:Gl X "list")(hml:X.mg "list"=none)(hg:Gl X "zip")(hm:X.mg "zip"=none)(ha:PA X [e,e2] ta)
  (hs:starEach [e,e2] X.env=(false,eval e X.env)::starEach [e2] X.env:=by rfl) (hpl:(backTo pos2 (starEach [e2] X.env)).any (·.1)=false:=by rfl)
  (hs1:starEach [.Call (.Name "zip" p2) [e,e2] [] pos2] X.env=(false,eval (.Call (.Name "zip" p2) [e,e2] [] pos2) X.env)::starEach [] X.env:=by rfl) (hpl1:(backTo pos (starEach [] X.env)).any (·.1)=false:=by rfl) :
  PE X (.Call (.Name "list" p) [.Call (.Name "zip" p2) [e,e2] [] pos2] [] pos) (Gg X.K ta):=by
 intro pins s σ H Q I h;refine Call_ (jl I hgl hml qK (PyProof.Rows.callWith_type1 ?_ hs1 hpl1));rw[hs1];show wpAny _ _ (spliced ((false,eval (.Call (.Name "zip" p2) [e,e2] [] pos2) X.env)::backTo pos (starEach [] X.env))) _ _ s;refine Calls.spliced_cons ?_;refine Call_ (jl I hg hm kP (PyProof.Rows.callWith_type1 (B9 (ha pos2 pins s σ H _ I h) λus s1 ⟨vs,H1,I1,r1,q1⟩=>?_) hs hpl));obtain⟨a,b,xs,ys,ex,hqx,hqy,q⟩:=q1;subst ex;cases r1 with
 |cons r rr =>
  cases rr with
  |cons r' rr =>
   cases rr;cases r;cases r';exact B9 (jR hc I1 hqx hqy q) λz s2 hz=>Calls.spliced_nil hz
structure EE (P:Program)(w:World)(K:W.Frag)(mg:Str->Option Value)(base:Heap)(k:Nat)(f:Addr)(Φ:Hp->Prop)(sp:Sp):Prop where
 fn:∀ (h:Heap) (H:Hp),K.In h->ay P w H h->Φ H->∃ q,(q=Keeper.frame\/q=Keeper.machine\/q=Keeper.boundFrame)/\W.Looks (model P w) h (keeperOf (.ref f)) q
 run:∀ (A:Around) (outer:List Env) (s:Shared) (H:Hp) (us:List Value) (vs:List V) (Q:VK) (E:XK),F9 k A->pF P w K mg base A outer s H->Φ H->x9 vs us->sp vs H Q E ->
  codeAny (model P w) A (.call (.ref f) ⟨us,[]⟩) (CR (A7 P w) outer P w H s Q E) s
section
variable {X:Cx}{k i:Nat}{x:Str}{E:XK}{p pos:Pos}{e:Expr}{es:List Expr}{t:TA}
def vS (P:Program)(w:World)(K:W.Frag)(mg:Str->Option Value)(base:Heap)(k i:Nat)(E:XK)(t:TA):TE:=λσ H Q=>∃ f Φ sp,σ[i]?=some (some (.ref f))/\EE P w K mg base k f Φ sp/\t σ H λvs H1=>Φ H1/\sp vs H1 Q E
theorem wR (hN:X.N[i]?=some x)(hv:Ex X.env.scope x)(hr:F9 k X.A)(hx:F6 (A7 X.prog X.w) X E)(ha:PA X (e::es) t)(hd:(x==("__debug__" : Str))=false:=by decide)(hcd:(x==("__classdict__" : Str))=false:=by decide)
  (he:starEach (e::es) X.env=(false,eval e X.env)::starEach es X.env:=by rfl) (hpl:(backTo pos (starEach es X.env)).any (·.1)=false:=by rfl) :
  PE X (.Call (.Name x p) (e::es) [] pos) (vS X.prog X.w X.K X.mg X.base k i E t):=by
 intro pins s σ H Q I h;obtain⟨f,Φ,sp,hi,C,h⟩:=h;refine wpAny_Call_Name_kw (B9 (wO hN hv hd hcd pins s σ H (λv H'=>v=.ref f/\H'=H) I ⟨_,hi,rfl,rfl⟩) λu s1 ⟨v,H1,I1,r,ev,eH⟩=>?_);subst ev eH;cases r;have ev:wpAny (model X.prog X.w) X.A (spliced (backTo pos (starEach (e::es) X.env))) (λvs s₁=>(∃ q,(q=Keeper.frame\/q=Keeper.machine\/q=Keeper.boundFrame)/\W.Looks (model X.prog X.w) s₁.heap (keeperOf (.ref f)) q)/\wpAny (model X.prog X.w) X.A (call (.ref f) ([]++vs)) (EP X pins σ Q) X.xe s₁) X.xe s1:=by
  refine B9 (ha pos pins s1 σ H1 _ I1 h) λus s2 ⟨vs,H2,I2,r,hΦ,q⟩=>⟨C.fn _ _ I2.kIn I2.hok hΦ,?_⟩;refine wpAny_call (codeAny_mono (C.run X.A X.stack s2 H2 us vs Q E hr I2.env0 hΦ r q) λr s' hq=>?_);cases r with
  |error e=>exact hx pins σ H2 s2 e s' I2 hq
  |ok fl =>
   cases fl with
   |ret u=>exact I2.after hq
   |next=>exact False.elim hq
   |brk=>exact False.elim hq
   |cont=>exact False.elim hq
 rw[he]at ev⊢;exact W.callWith_of (P:=λh=>∃ q,(q=Keeper.frame\/q=Keeper.machine\/q=Keeper.boundFrame)/\W.Looks (model X.prog X.w) h (keeperOf (.ref f)) q) (by show((false||(backTo pos (starEach es X.env)).any (·.1))||false)=false;rw[hpl];rfl) (λh z=>z) (Calls.evalArgs_plain ev)
end
theorem vi {l:Addr}{Q:VK}{G H:Hp}(hl:H l=none):∀ (xs ys:List V) (Ts:List Addr) (dn:List (V×V)) (G1 H1:Hp),j6 [] G H G1 H1->G1 l=none->H1 l=some (.lst (Ts.map V.ref))->Paired (λT (p:V×V)=>G1 T=some (.tup [p.1,p.2])) Ts dn ->
  (∀ G' H' Ts',j6 [] G H G' H'->G' l=some (.lst (Ts'.map V.ref))->Paired (λT (p:V×V)=>G' T=some (.tup [p.1,p.2])) Ts' (dn++xs.zip ys)->Q (.ref l) H')->gL l Q xs ys (Ts.map V.ref) H1:=by
 intro xs;have stop:∀ (Ts:List Addr) (dn:List (V×V)) (G1 H1:Hp),j6 [] G H G1 H1->G1 l=none->H1 l=some (.lst (Ts.map V.ref))->Paired (λT (p:V×V)=>G1 T=some (.tup [p.1,p.2])) Ts dn ->
   (∀ G' H' Ts',j6 [] G H G' H'->G' l=some (.lst (Ts'.map V.ref))->Paired (λT (p:V×V)=>G' T=some (.tup [p.1,p.2])) Ts' (dn++[])->Q (.ref l) H')->Q (.ref l) H1:=by
  intro Ts dn G1 H1 e gl hl1 hp k;have e2:=e.freeze hl1 hl;refine k _ _ Ts e2 c9 ?_;rw[List.append_nil];refine Paired.map' (λT p h=>?_) hp;have ne:T≠l:=λz=>by rw[z,gl]at h;cases h
  rw[i0 ne];exact h
 induction xs with
 |nil =>
  intro ys Ts dn G1 H1 e gl hl1 hp k;unfold gL;exact stop Ts dn G1 H1 e gl hl1 hp k
 |cons x xs ih =>
  intro ys Ts dn G1 H1 e gl hl1 hp k;cases ys with
  |nil=>unfold gL;exact stop Ts dn G1 H1 e gl hl1 hp k
  |cons y ys =>
   unfold gL;intro T hT;have Tl:T≠l:=λz=>by rw[z,hl1]at hT;cases hT
   have gl2:(i8 G1 T (.tup [x,y])) l=none:=by rw[i0 (Ne.symm Tl)];exact gl
   have e2:=(e.lay hT (o:=.tup [x,y])).put (p:=l) (o:=.lst ((Ts++[T]).map V.ref)) (.inl hl) gl2;have:=ih ys (Ts++[T]) (dn++[(x,y)]) _ _ e2 gl2 c9 ?_ ?_
   ·rw[List.map_append]at this;exact this
   ·refine Paired.snoc (Paired.map' (λT' p h=>?_) hp) c9;have ne:T'≠T:=λz=>by
     have:=e.sub _ _ h;rw[z,hT]at this;cases this
    rw[i0 ne];exact h
   ·intro G' H' Ts' e' g' p';refine k G' H' Ts' e' g' ?_;rw[List.append_assoc]at p';exact p'
theorem qU {l:Addr}{Q:VK}{G H:Hp}{xs ys:List V}(sm:l7 G H)(hl:H l=none)(k:∀ G' H' Ts,j6 [] G H G' H'->G' l=some (.lst (Ts.map V.ref))->Paired (λT (p:V×V)=>G' T=some (.tup [p.1,p.2])) Ts (xs.zip ys)->Q (.ref l) H'):gL l Q xs ys [] (i8 H l (.lst [])) :=
 vi hl xs ys [] [] G (i8 H l (.lst [])) ((j6.refl sm).lend hl) (sm.free hl) c9 .nil k
section
variable {X:Cx}{x C fI:Addr}{oe:Obj}{vs:Array Value}{names:List Str}{f:Str}{o:Expr}{pos:Pos}{to:TE}
def vM (x:Addr)(od:Option Addr)(to:TE)(f:Str):TE:=λσ H Q=>to σ H λv H1=>v=.ref x/\∃ d fs y,od=some d/\H1 d=some (tj d fs)/\fs.lookup f=some y/\Q y H1
theorem rP (hp:(x,oe)∈X.pn)(hc:oe.cls=.ref C)(hd:oe.data=.fields vs)(c:mP X.K C fI names)(hf:f∈names)(hB:typeLookup (.type "Exception") f=pure none)(he:PE X o to)(hb:attributeBase o f X.env (eval o X.env)=eval o X.env) :
  PE X (.Attribute o f pos) (vM x oe.dict to f):=by
 intro pins s σ H Q I h;refine sT hb (B9 (he pins s σ H _ I h) λu s1 ⟨v,H1,I1,rx,ev,d,fs,y,ed,hx,hl,q⟩=>?_);subst ev;obtain rfl:u=Value.ref x:=rx;obtain⟨cn,cq,Nc,cb,csn,csub,cab,ccol,cdd,p0,p1,p2,p3,p5,mC,hC,hN,_,hno⟩:=ei I1.kIn c.ini;obtain⟨hx0,_,_,_,_⟩:=I1.pin (x,oe) (List.mem_append_left _ hp);obtain⟨⟨mA,n,r,wi⟩,_,_⟩:=(show y3 X.prog X.w H1 s1.heap d (tj d fs) from I1.hok d _ hx);obtain⟨u,hu,ru⟩:=ax.some_of (v:=y) (o:=mA f) (by rw[<-hl];exact r f);have I2:=I1.tok (s1.toks+1);obtain⟨hh,gg,dd,tt,oo⟩:=s1;exact EK PySem.F.attrBase_Exception hC hN (hno _ c.ga) (hno _ c.gt) (hno _ hf) hB hx0 hc hd ed n hu (W.handedOut_of (kK ru)) ⟨y,H1,I2,ru,q⟩
end
def EG (f:Addr)(o:Obj):HO:=.ext λh=>h.get? f=some o
def EH (c:Addr)(q:Str):HO:=.ext λh=>h.CodeRec (.ref c) q
section
variable {P:Program}{w:World}{H:Hp}{h:Heap}
theorem Eg {f:Addr}{o:Obj}(e:h.get? f=some o):y3 P w H h f (EG f o):=⟨e,⟨o,e⟩,λh1 h2 q k=>k _ q⟩
theorem Es {c:Addr}{q:Str}(e:h.CodeRec (.ref c) q):y3 P w H h c (EH c q):=by
 obtain⟨c',oc,vs,t,e1,ho,hd,hv⟩:=id e;cases e1;refine⟨e,⟨oc,ho⟩,λh1 h2 x k=>?_⟩;obtain⟨c',oc,vs,t,e1,ho,hd,hv⟩:=x;cases e1;exact⟨_,oc,vs,t,rfl,k _ ho,hd,hv⟩
end
theorem Ay {P:Program}{w:World}{K:W.Frag}{mg:Str->Option Value}{base:Heap}{k:Nat}{f c:Addr}{name qual:Str}{params:Arguments}{body:Expr}{scope:Scope}{pm ctv:Value}{N ps:List Str}{sp:Sp}
  (S:i6 N ps scope) (len:∀ vs H Q E,sp vs H Q E->vs.length=ps.length)
  (hb:∀ us:List Value,us.length=ps.length->bindArgs (W.kla_fn name qual params body scope [] pm (.ref c) ctv) ⟨us,[]⟩=pure (ps.zip us))
  (hbody:∀ (A:Around) (outer:List Env) (s:Shared) (H:Hp) (vs:List V) (Q:VK) (E:XK),F9 k (A.deeper (envOfC qual scope s.heap.objs.size f (.ref c)))->sp vs H Q E ->
   ∃ t,PE (dj (A7 P w) P w K mg base N qual scope f (.ref c) A outer s H E) body t/\t (start N vs) H Q) :
  EE P w K mg base (k+1) f (λH=>H f=some (EG f (W.kla_obj name qual params body scope [] pm c ctv))/\H c=some (EH c qual)) sp where
 fn:=λh H X hok hΦ=>by
  have e:h.get? f=some (W.kla_obj name qual params body scope [] pm c ctv):=(hok f _ hΦ.1).1;exact⟨.frame,.inl rfl,(W.Looks.ld (part:=none) e).andThen .now⟩
 run:=λA outer s H us vs Q E hr e0 hΦ r hsp=>by
  have hl:=len _ _ _ _ hsp;have hlu:us.length=ps.length:=by rw[<-r.length];exact hl
  have ho:s.heap.get? f=some (W.kla_obj name qual params body scope [] pm c ctv):=(e0.hok f _ hΦ.1).1;have hrec:s.heap.CodeRec (.ref c) qual:=(e0.hok c _ hΦ.2).1;have lim:s.heap.NoLimit:=e0.mod.nolimit.keeps λb o e=>(e0.bs b o e).1;have hkind:∀ y∈ps.zip us,scope.names.lookup y.1=some .local \/(scope.names.lookup y.1=some .cell/\((cellsFrom (s.heap.objs.size+1) scope.names []).lookup y.1).isSome=true):=λ⟨n,v⟩ hy=>by
   rcases S.par n (List.of_mem_zip hy).1 with q|q
   ·exact .inl q
   ·exact .inr ⟨q,W.cellsFrom_some _ _ _ (.inl q)⟩
  refine W.kla_callFunE hr.depth ho rfl S.co S.gen rfl hrec ?_;rw[hb us hlu];refine wpAny_pure ?_;refine wpAny_newFunctionEnv_cells S.kind hkind λenv he s1 x=>?_;subst he;refine⟨lim.keeps x.toInCall.keep,W.kla_codeExpr ?_⟩;obtain⟨t,ht,hq⟩:=hbody A outer s H vs Q E (hr.deeper _) hsp;have I:j7 (dj (A7 P w) P w K mg base N qual scope f (.ref c) A outer s H E) [] (start N vs) H s1:=kJ S hr.hd e0 hl r x;refine wpAny_mono (ht [] s1 (start N vs) H _ I hq) (λu s' hs=>?_) λe s' hs=>hs;obtain⟨v,H',J,rv,q⟩:=hs;exact⟨v,H',J.os,J.bare,J.base,J.hok,rv,q⟩
def mn (K:W.Frag)(c Pt:Addr):Bool:=match K.lookup c with
 |some ⟨.type "code",_,.fields vs,_⟩=>(match (vs[11]?:Option Value),vs.getD 11 .none,vs.getD 18 .none,vs.getD 7 .none,vs.getD 9 .none,vs.getD 10 .none with
  |some (.ref q),.ref q',.str _ _,.int _ _,.bool _,.int _ _=>q==Pt&&q'==Pt&&c !=Pt
  |_,_,_,_,_,_=>false)
 |_=>false
theorem xW {K:W.Frag}{c Pt:Addr}(e:mn K c Pt=true){h:Heap}(X:K.In h):W.CodeHd h c Pt:=by
 unfold mn at e;split at e
 ·rename_i od vs sl ho
  split at e
  ·rename_i q q' file tf flags tg inF text tt h1 h2 h3 h4 h5 h6
   simp only[Bool.and_eq_true,beq_iff_eq,bne_iff_ne]at e;obtain⟨⟨rfl,rfl⟩,ne⟩:=e;exact⟨_,vs,_,_,_,_,_,_,_,X _ _ ho,rfl,rfl,h1,h2,h3,h4,h5,h6,ne⟩
  ·cases e
 ·cases e
def Gm (clos:List (Str×Addr))(Pt:Addr)(pos:Pos)(qual:Str)(params:Arguments)(body:Expr)(scope:Scope):TE:=λ_ H Q=>∃ tb:Array Value,H Pt=some (.tbl tb)/\TriplesOk tb.toList/\codeAmong pos tb.toList=none /\
 ∀ (f c:Addr) (pm ctv:Value),H f=none->H c=none->f≠c->Q (.ref f) (i8 (i8 (i8 H Pt (.tbl (tb++#[rawInt pos.line,rawInt pos.col,.ref c]))) c (EH c qual)) f (EG f (W.kla_obj "<lambda>" qual params body scope clos pm c ctv)))
theorem Cf {X:Cx}{clos:List (Str×Addr)}{params:Arguments}{body:Expr}{scope:Scope}{pos:Pos}{cm Pt:Addr}(hdef:defaultsOf params X.env=([],[]))(hcl:closureFor scope X.env=pure clos)(hcode:X.env.code=.ref cm)(hC:mn X.K cm Pt=true) :
  PE X (.Lambda params body scope pos) (Gm clos Pt pos (X.env.qual++"<lambda>") params body scope):=by
 intro pins s σ H Q I hq;obtain⟨tb,hPt,htr,hnf,hq⟩:=hq;have hP:s.heap.get? Pt=some (W.tabObj tb):=I.hok Pt _ hPt;have hgs:s.heap.Ns mainGlobals X.mg:=I.ok.mod.glob.keeps I.bk;have hgP:mainGlobals≠Pt:=λq=>by
  obtain⟨o,es,ep,e,hd,_⟩:=hgs;rw[q,hP]at e;cases e;cases hd
 have hbA:s.heap.BuiltinsAt X.mg Pt:=by
  obtain⟨bm,ob,b1,b2,b3,b4,b5,b6⟩:=I.ok.mod.bmain;have b3':=I.bk _ _ b3;refine⟨bm,ob,b1,b2,λq=>?_,λq=>?_,b3',b4,b5,b6⟩
  ·obtain⟨o,es,ep,e,hd,_⟩:=hgs;rw[q,e]at b3';cases b3';rw[hd]at b6;cases b6
  ·rw[q,hP]at b3';cases b3';cases b4
 refine W.kla_eval hdef (W.kla_makeFunction hcl I.ok.glob hgs hcode (xW hC I.kIn) hP htr hnf hgP hbA λc ctv h' tk hx hge hlt hrec htb=>?_);generalize hob:W.kla_obj "<lambda>" (X.env.qual++"<lambda>") params body scope clos ((X.mg "__name__").getD .none) c ctv=ob;have hfr:ob.isFreed=false:=by rw[<-hob];rfl
 have hc0:H c=none:=I.hok.fresh hge;have hf0:H h'.objs.size=none:=I.hok.fresh (Nat.le_trans hge (Nat.le_of_lt hlt));have nfc:h'.objs.size≠c:=Nat.ne_of_gt hlt;have key:=hq h'.objs.size c ((X.mg "__name__").getD .none) ctv hf0 hc0 nfc;rw[hob]at key;refine⟨.ref h'.objs.size,_,?_,rfl,key⟩;have npc:Pt≠c:=j3 hPt hc0;have npf:Pt≠h'.objs.size:=j3 hPt hf0;have lt0:∀ b o,s.heap.get? b=some o->b≠c/\b≠h'.objs.size:=λb o e=>by
  have:=Heap.lt_size e;exact⟨Nat.ne_of_lt (Nat.lt_of_lt_of_le this hge),Nat.ne_of_lt (Nat.lt_trans (Nat.lt_of_lt_of_le this hge) hlt)⟩
 have put:∀ b,b≠Pt->b≠c->b≠h'.objs.size->(i8 (i8 (i8 H Pt (.tbl (tb++#[rawInt pos.line,rawInt pos.col,.ref c]))) c (EH c (X.env.qual++"<lambda>"))) h'.objs.size (EG h'.objs.size ob)) b=H b:=λb h1 h2 h3=>by
  rw[i0 h3,i0 h2,i0 h1]
 have atP:(i8 (i8 (i8 H Pt (.tbl (tb++#[rawInt pos.line,rawInt pos.col,.ref c]))) c (EH c (X.env.qual++"<lambda>"))) h'.objs.size (EG h'.objs.size ob)) Pt=some (.tbl (tb++#[rawInt pos.line,rawInt pos.col,.ref c])):=by
  rw[i0 npf,i0 npc,c9]
 have neH:∀ b o,H b=some o->b≠c/\b≠h'.objs.size:=λb o e=>⟨j3 e hc0,j3 e hf0⟩;have kp:∀ b o,b≠Pt->s.heap.get? b=some o->(h'.push ob).get? b=some o:=λb o hb e=>Heap.get?_push_of_some _ (hx b o hb e);refine I.un (t':=tk) ⟨λb o e n _ _=>?_,λb o e n _ _=>?_,λb o e n _=>?_,λb o e _=>?_,λb xs e=>?_,λb o u e=>?_,λb ps e=>?_⟩ λb o e=>?_
 ·exact kp b o (λz=>by rw[z,hPt]at n;cases n) e
 ·exact⟨o.slots,kp b o (λz=>by rw[z,hPt]at n;cases n) e⟩
 ·rw[put b (λz=>by rw[z,hPt]at n;cases n) (lt0 b o e).1 (lt0 b o e).2];exact n
 ·by_cases hb:b=Pt
  ·exact⟨_,by rw[hb];exact Heap.get?_push_of_some _ htb⟩
  ·exact⟨o,kp b o hb e⟩
 ·rw[put b (λz=>by rw[z,hPt]at e;cases e) (neH b _ e).1 (neH b _ e).2];exact e
 ·rw[put b (λz=>by rw[z,hPt]at e;cases e) (neH b _ e).1 (neH b _ e).2];exact e
 ·by_cases hb:b=Pt
  ·subst hb;rw[hPt]at e;cases e;exact⟨_,atP⟩
  ·exact⟨#[],by rw[put b hb (neH b _ e).1 (neH b _ e).2,e];simp⟩
 ·by_cases h1:b=h'.objs.size
  ·subst h1;rw[c9]at e;cases e;exact Eg (Heap.get?_push_size _ hfr)
  ·by_cases h2:b=c
   ·subst h2;rw[i0 h1,c9]at e;cases e;exact Es (hrec.push _)
   ·by_cases h3:b=Pt
    ·subst h3;rw[atP]at e;cases e;exact Heap.get?_push_of_some _ htb
    ·rw[put b h3 h2 h1]at e;refine(I.hok b o e).stay (λd v hd q=>kp d v (λz=>?_) q) (λd q=>?_) λd xs q=>?_
     ·rcases hd with hd|hd
      ·exact h3 (hd▸z)
      ·rw[z,hPt]at hd;cases hd
     ·rw[put d (λz=>by rw[z,hPt]at q;cases q) (neH d _ q).1 (neH d _ q).2];exact q
     ·rw[put d (λz=>by rw[z,hPt]at q;cases q) (neH d _ q).1 (neH d _ q).2];exact q
theorem EE.mono {P:Program}{w:World}{K:W.Frag}{mg:Str->Option Value}{base:Heap}{j k:Nat}{f:Addr}{Φ:Hp->Prop}{sp:Sp}(C:EE P w K mg base j f Φ sp)(h:j<=k):EE P w K mg base k f Φ sp :=
 ⟨C.fn,λA outer s H us vs Q E hr=>C.run A outer s H us vs Q E (hr.mono h)⟩
structure AJ (K:W.Frag)(x qual:Str)(st:Stmt)(f:Addr)(fd:FuncData)(cm:Addr):Prop where
 ex:∃ (oc:Value) (od:Option Addr) (kV doc pm:Value) (an:Option Addr) (ct:Value) (osl:Array (Option Value)),
  fd=W.fnOf x qual (L8 st) (F5 st) (d8 st) .none kV doc pm an (.ref cm) ct/\K.lookup f=some ⟨oc,od,.func fd,osl⟩/\W.codeIn K (.ref cm) qual=true
theorem AJ.okX {P:Program}{w:World}{K:W.Frag}{mg:Str->Option Value}{base:Heap}{x qual:Str}{st:Stmt}{f cm:Addr}{fd:FuncData}{N ps:List Str}{k:Nat}{sp:Sp}(F:AJ K x qual st f fd cm)(S:i6 N ps (d8 st))(len:∀ vs H Q E,sp vs H Q E->vs.length=ps.length)
  (hbody:∀ (A:Around) (outer:List Env) (s:Shared) (H:Hp) (vs:List V) (Q:VK) (E:XK),F9 k (A.deeper (envOfC qual (d8 st) s.heap.objs.size f (.ref cm)))->sp vs H Q E ->
   ∃ t,pJ (dj (A7 P w) P w K mg base N qual (d8 st) f (.ref cm) A outer s H E) (F5 st) t/\t { nx:=λ_ H'=>Q .non H',rt:=Q } (start N vs) H):o8 P w K mg base (A7 P w) (k+1) f fd ps sp:=by
 obtain⟨oc,od,kV,doc,pm,an,ct,osl,rfl,lk,hcd⟩:=F.ex;exact Bk lk hcd S len λA outer s H vs Q E hr hsp=>hbody A outer s H vs Q E hr hsp
def xH (st:Stmt):Expr:=match (F5 st).getLast? with
 |some (.Return (some (.Call _ es _ _)) _)=>es.getLast?.getD (.Constant .none 0 ⟨0,0,0,0⟩)
 |_=>.Constant .none 0 ⟨0,0,0,0⟩
def zX (st:Stmt):Arguments:=match xH st with
 |.Lambda a _ _ _=>a
 |_=>{ posonlyargs:=[],args:=[],vararg:=none,kwonlyargs:=[],kw_defaults:=[],kwarg:=none,defaults:=[] }
def zW (st:Stmt):Expr:=match xH st with
 |.Lambda _ b _ _=>b
 |e=>e
def oO (st:Stmt):Scope:=match xH st with
 |.Lambda _ _ sc _=>sc
 |_=>{ kind:=.function,names:=[],isGenerator:=false,isCoroutine:=false }
def lX (H:Hp)(Pt:Addr):Hp:=λb=>if b=Pt then none else H b
theorem uj {H:Hp}{Pt:Addr}:l7 (lX H Pt) H:=λb o e=>by
 unfold lX at e;by_cases h:b=Pt
 ·rw[if_pos h]at e;cases e
 ·rw[if_neg h]at e;exact e
theorem zM {H:Hp}{Pt:Addr}:lX H Pt Pt=none:=by unfold lX;rw[if_pos rfl]
theorem rT {H:Hp}{Pt b:Addr}(h:b≠Pt):lX H Pt b=H b:=by unfold lX;rw[if_neg h]
theorem xl {K:W.Frag}{H:Hp}{Pt a:Addr}{xs:List V}{tb:Array Value}(hP:H Pt=some (.tbl tb))(h:C9 K H a xs):C9 K (lX H Pt) a xs:=by
 rcases h with(h|⟨o,h⟩)|h
 ·exact .inl (.inl (by rw[rT (λz=>by rw[z,hP]at h;cases h)];exact h))
 ·exact .inl (.inr ⟨o,by rw[rT (λz=>by rw[z,hP]at h;cases h)];exact h⟩)
 ·exact .inr h
open PySem.W (WData Codec OpenSpec Well WellAll ReadsW ReadsAllW)
mutual
theorem Ap {K:W.Frag}{H H':Hp}(s:l7 H H'):∀ (d:WData) (v:V),Dw K H v d->Dw K H' v d
 |_,_,.non=>.non
 |_,_,.bl b=>.bl b
 |_,_,.int i=>.int i
 |_,_,.str x=>.str x
 |_,_,.byt b=>.byt b
 |_,_,.lst (ds:=ds) (xs:=xs) h r=>.lst (s.seq h) (dwAll_same s ds xs r)
 |_,_,.tup (ds:=ds) (xs:=xs) h r=>.tup (s.seqT h) (dwAll_same s ds xs r)
theorem dwAll_same {K:W.Frag}{H H':Hp}(s:l7 H H'):∀ (ds:List WData) (vs:List V),DwAll K H vs ds->DwAll K H' vs ds
 |_,_,.nil=>.nil
 |_,_,.cons (d:=d) (v:=v) (ds:=ds) (vs:=vs) h r=>.cons (Ap s d v h) (dwAll_same s ds vs r)
end
theorem FJ {K:W.Frag}{H:Hp}{Pt b:Addr}{o:Obj}{u:HO}(nK:∀ b o,K.lookup b=some o->H b=none)(hP:H Pt=some u)(e:K.lookup b=some o)(z:b=Pt):K.lookup b=none:=by
 have:=nK b o e;rw[z,hP]at this;cases this
theorem pU {P:Program}{w:World}{K:W.Frag}{mg mb:Str->Option Value}{CX:yD}{k:Nat}{fa cm Pt:Addr}{fd:FuncData}{ps:List Str}{sp:Sp}{s₁:Shared}{vals:List Value}{ds:List WData}{R:W.WRecords}{cl:Str->Option Addr}{d0:WData}
  (KX:K.In s₁.heap) (hns:s₁.heap.Ns mainGlobals mg) (hb:s₁.heap.Ns builtinsNs mb) (hbb:∀ x:Str,x≠"__name__"->mb x=bootBuiltins x) (hlim:s₁.heap.NoLimit) (hdig:s₁.heap.NoDigits) (hsee:s₁.heap.NoSeer) (hbm:∃ bm ob,mg "__builtins__"=some (.ref bm)/\bm≠builtinsNs/\s₁.heap.get? bm=some ob/\ob.cls=.type "module"/\ob.dict=some builtinsNs/\ob.data=.plain) (hg:s₁.gens=#[])
  (hwl:WellAll w.params s₁.heap vals ds) (hpl:plWs ds=true) (hwt:∀ d∈ds,d.weight<=1048576) (hr:F9 k callerA) (hC:mn K cm Pt=true) (hPn:K.lookup Pt=none) (hPh:s₁.heap.get? Pt=some (W.tabObj #[]))
  (F:∀ base:Heap,K.In base->base.Ns mainGlobals mg->o8 P w (K) mg base CX k fa fd ps sp) (hbind:∀ (s:Shared) (us:List Value),us.length=ps.length->BindsTo s fd ⟨us,[]⟩ (ps.zip us)) (hlen:ds.length=ps.length)
  (hsp:∀ (H:Hp) (xs:List V),H Pt=some (.tbl #[])->DwAll (K) H xs ds->sp xs H (λv H'=>Dw (K) H' v d0) λ_ _ _=>False)
  (hCX:∀ H e s',CX [] H s₁ (λ_ _ _=>False) e s'->False) :
  codeAny (model P w) callerA (.call (.ref fa) ⟨vals,[]⟩) (λr s'=>∃ u as,r=.ok (.ret u)/\ReadsW R cl s'.heap u d0 as/\OldK s₁.heap s'.heap/\s'.os=s₁.os/\AllBare s'.gens) s₁:=by
 have hCh:W.CodeHd s₁.heap cm Pt:=xW hC KX;have KX1:K.In s₁.heap:=KX;clear KX hC;generalize K=Kd at *;obtain⟨A,ho,ar⟩:=area_all ds vals hwl hpl hwt;have hO:Bn (bw Kd s₁.heap A):=uP ar;have hok0:ay P w (bw Kd s₁.heap A) s₁.heap:=AD ar;have hS0:=dw_all KX1 ar ds vals hwl hpl ho;have hV:=Y8 ho;have hK:∀ b u,bw Kd s₁.heap A b=some u->Kd.lookup b=none:=λb u q=>(ig ar q).1;have noA:∀ {b:Addr}{o:Obj},s₁.heap.get? b=some o->(∀ c (vs:List Value),(c=.type "list"\/c=.type "tuple")->o≠{ cls:=c,data:=.seq vs.toArray })->bw Kd s₁.heap A b=none:=λ{b o} e d=>by
  cases q:bw Kd s₁.heap A b with
  |none=>rfl
  |some u =>
   obtain⟨_,vs,_,_,⟨e2,_⟩|⟨e2,_⟩⟩:=ig ar q
   ·rw[e2]at e;cases e;exact(d _ vs (.inl rfl) rfl).elim
   ·rw[e2]at e;cases e;exact(d _ vs (.inr rfl) rfl).elim
 generalize bw Kd s₁.heap A=H0 at hO hok0 hS0 hK noA;have h0P:H0 Pt=none:=noA hPh λc vs _ z=>by injection z with _ _ z;cases z
 have hne:∀ {b:Addr}{o:HO},H0 b=some o->b≠Pt:=λ{b o} e=>j3 e h0P;have grow:l7 H0 (i8 H0 Pt (.tbl #[])):=λb o e=>by rw[i0 (hne e)];exact e
 have hS:DwAll Kd (i8 H0 Pt (.tbl #[])) (vals.map mW) ds:=dwAll_same grow ds _ hS0;have hok:ay P w (i8 H0 Pt (.tbl #[])) s₁.heap:=λb o e=>by
  by_cases hb:b=Pt
  ·subst hb;rw[c9]at e;cases e;exact hPh
  ·rw[i0 hb]at e;exact(hok0 b o e).stay (λ_ _ _ q=>q) (λc q=>grow c _ q) λc xs q=>grow c _ q
 have noH:∀ {b:Addr}{o:Obj},s₁.heap.get? b=some o->(∀ c (vs:List Value),(c=.type "list"\/c=.type "tuple")->o≠{ cls:=c,data:=.seq vs.toArray })->o≠W.tabObj #[]->(i8 H0 Pt (.tbl #[])) b=none:=λ{b o} e d d2=>by
  rw[i0 (λz=>by rw[z,hPh]at e;cases e;exact d2 rfl)];exact noA e d
 have hP1:(i8 H0 Pt (.tbl #[])) Pt=some (.tbl #[]):=c9;have hcases:∀ b u,(i8 H0 Pt (.tbl #[])) b=some u->b=Pt\/(∃ o v,(i8 H0 Pt (.tbl #[])) b=some (.frz o v)):=λb u e=>by
  by_cases hb:b=Pt
  ·exact .inl hb
  ·rw[i0 hb]at e⊢;rcases hO b with z|⟨o,v,z⟩
   ·rw[z]at e;cases e
   ·exact .inr ⟨o,v,z⟩
 have nK:∀ b o,Kd.lookup b=some o->(i8 H0 Pt (.tbl #[])) b=none:=λb o e=>by
  have hb:b≠Pt:=λz=>by rw[z,hPn]at e;cases e
  rw[i0 hb];cases q:H0 b with
  |none=>rfl
  |some u =>
   rw[hK b u q]at e;cases e
 clear hS0 hok0 hO hK noA h0P hne grow;generalize i8 H0 Pt (.tbl #[])=H at hS hok noH hP1 hcases nK;have base_of:∀ {b:Addr}{o:Obj},s₁.heap.get? b=some o->H b=none->(mm s₁.heap H).get? b=some o:=λe n=>xV e n;have nsK:∀ {b:Addr}{m:Str->Option Value},s₁.heap.Ns b m->(mm s₁.heap H).Ns b m:=λ{b m} ⟨o,es,ep,e,d,r⟩=>⟨o,es,ep,base_of e (noH e (λc vs _ z=>by rw[z]at d;cases d) (λz=>by rw[z]at d;cases d)),d,r⟩;have noM:∀ {b:Addr}{o:Obj},s₁.heap.get? b=some o->o.cls=.type "module"->H b=none:=λ{b o} e d=>noH e (λc vs hc z=>by rw[z]at d;rcases hc with hc|hc<;>(rw[hc]at d;exact absurd (Value.type.inj d) (by decide))) (λz=>by rw[z]at d;cases d);have hKb:Kd.In (mm s₁.heap H):=λb o e=>base_of (KX1 b o e) (nK b o e);have hM:Mod Kd mg (mm s₁.heap H):=⟨hKb,nsK hns,⟨mb,nsK hb,hbb⟩,(let⟨mc,h1,h2⟩:=hlim;⟨mc,nsK h1,h2⟩),(let⟨mc,h1,h2⟩:=hdig;⟨mc,nsK h1,h2⟩),⟨(let⟨mc,h1,h2⟩:=hsee.statics;⟨mc,nsK h1,h2⟩),(let⟨mc,h1,h2⟩:=hsee.mods;⟨mc,nsK h1,h2⟩),(let⟨mc,h1,h2⟩:=hsee.imp;⟨mc,nsK h1,h2⟩),(let⟨mg',bm,ob,h1,h2,h3,h4,h5⟩:=hsee.main;⟨mg',bm,ob,nsK h1,h2,base_of h3 (noM h3 h4),h4,h5⟩)⟩,(let⟨bm,ob,h1,h2,h3,h4,h5⟩:=hbm;⟨bm,ob,h1,h2,base_of h3 (noM h3 h4),h4,h5⟩)⟩;have e0:pF P w Kd mg (mm s₁.heap H) callerA [] s₁ H:=⟨rfl,hM,λb o e=>zN e,Nat.le_of_eq (uE _ _),trivial,λb hb=>absurd (show b∈([]:List Addr) from hb) (by simp),hok,.of_eq hg⟩;have hl:vals.length=ps.length:=by rw[V4 hwl];exact hlen
 refine codeAny_mono ((F _ hKb (nsK hns)).run callerA [] s₁ H ⟨vals,[]⟩ vals (vals.map mW) _ _ hr e0 (hbind s₁ vals hl) hV (hsp H _ hP1 hS)) λr s' x=>?_;cases r with
 |error e=>exact(hCX H e s' x).elim
 |ok fl =>
  cases fl with
  |next=>exact False.elim x
  |brk=>exact False.elim x
  |cont=>exact False.elim x
  |ret u =>
   obtain⟨v,H',os,bare,un,hok',r',q⟩:=x;have kept:∀ b o,b≠Pt->s₁.heap.get? b=some o->s'.heap.get? b=some o:=λb o hbP e=>by
    cases q2:H b with
    |none=>exact un.keep b o e q2 (by intro z;exact absurd (show b∈([]:List Addr) from z) (by simp)) (by simp)
    |some u2 =>
     rcases hcases b _ q2 with z|⟨ob,u3,z⟩
     ·exact(hbP z).elim
     ·have z2:=un.frzs b ob _ z;obtain⟨e1,_⟩:=hok b _ z;obtain⟨e2,_⟩:=hok' b _ z2;rw[e]at e1;cases e1;exact e2
   obtain⟨more,hT⟩:=un.tbls Pt _ hP1;have hT':s'.heap.get? Pt=some { cls:=.none,data:=.fields (#[]++more) }:=hok' Pt _ hT;have KX':Kd.In s'.heap:=λb o e=>kept b o (λz=>by rw[FJ nK hP1 e z]at e;cases e) (KX1 b o e);obtain⟨as,hrd⟩:=Dw.reads (R:=R) (cl:=cl) hok' KX' d0 v u q r';refine⟨u,as,rfl,hrd,⟨λb o e=>?_,λb o e=>?_⟩,os,bare⟩
   ·by_cases hbP:b=Pt
    ·subst hbP;rw[hPh]at e;cases e;exact .inr (.inl ⟨(hCh.tab hPh).isCodeTable,rfl,#[],more,rfl,hT'⟩)
    ·exact .inl (kept b o hbP e)
   ·by_cases hbP:b=Pt
    ·subst hbP;exact⟨_,hT'⟩
    ·exact⟨o,kept b o hbP e⟩
theorem pL {r:OpenSpec}{k:Nat}{q:Program}{loose:List Str}{XP:(Str->Option Value)->Heap->Prop}{YP:World->Heap->Prop}{d:DefRec}{K:Params->W.Frag}{CX:World->yD}{ps:List Str}{sp:Addr->W.Frag->Sp}
  (hwell:r.wellSaid=true) (himp:PyProof.Rows.importsNone q=true) (hrec:(recsOf q).find? (λe=>e.name==d.name)=some d) (hdf:d.params.defaults=[]) (hlen:r.args.length=ps.length) (hr:F9 k callerA)
  (hY:∀ (w:World) (h:Heap),YP w h->(K w.params).In h)
  (F:∀ (w:World) (mg:Str->Option Value) (fa:Addr) (h:Heap),YP w h->(K w.params).In h->h.Ns mainGlobals mg->mg d.name=some (.ref fa) ->
   ∃ (cm Pt:Addr) (fd:FuncData),mn (K w.params) cm Pt=true/\(K w.params).lookup Pt=none/\(∃ oc od sl,(K w.params).lookup fa=some ⟨oc,od,.func fd,sl⟩/\fd.code=.ref cm)/\(∀ (s:Shared) (us:List Value),us.length=ps.length->BindsTo s fd ⟨us,[]⟩ (ps.zip us)) /\
    ∀ base:Heap,(K w.params).In base->base.Ns mainGlobals mg->o8 r.prog w (K w.params) mg base (CX w) k fa fd ps (sp Pt (K w.params)))
  (hsp:∀ (Pt:Addr) (K:W.Frag) (H:Hp) (xs:List V) (a:Codec.denoteAll r.args),H Pt=some (.tbl #[])->Codec.withinAll r.args a=true->Codec.app r.args r.asked a=true->DwAll K H xs (Codec.encAll r.args a) ->
   sp Pt K xs H (λv H'=>Dw K H' v (r.ret.enc (Codec.app r.args r.f a))) λ_ _ _=>False)
  (hCX:∀ (w:World) (H:Hp) (s:Shared) (e:Value) (s':Shared),CX w [] H s (λ_ _ _=>False) e s'->False) :
  W.WalkOS q loose XP YP r d [] (λf vs=>PySem.call f vs):=by
 intro w s_0 s₁ mg mb G Y fa o pm cd doc dV kV ho hd hcd hD hmg hg args vals as hpre hlay hrd hwl hlo;obtain⟨a,e1,e2⟩:=W.os_pre_some hpre;obtain⟨e3,hwi⟩:=Codec.encAll_of_decAll r.args args a e1;subst e3;have KX:=hY w _ Y;obtain⟨cm,Pt,fd,hC,hPn,⟨oc,od,sl,hlk,hcode⟩,hb,hF⟩:=F w mg fa _ Y KX G.T.g hmg;have hPh:s₁.heap.get? Pt=some (W.tabObj #[]):=by
  obtain⟨a',o',fd',c',P',h1,h2,h3,h4,h5,h6⟩:=G.T.tab d (List.mem_of_find?_eq_some hrec);rw[hmg]at h1;cases h1;have e4:=KX _ _ hlk;rw[h2]at e4;cases e4;cases h3;rw[hcode]at h4;cases h4;obtain⟨⟨o2,vs2,g1,g2,g3,g4⟩,g5⟩:=h6;obtain⟨o3,vs3,_,_,_,_,_,_,_,k1,k2,k3,k4,_⟩:=xW hC KX;rw[g1]at k1;cases k1;rw[g3]at k3;cases k3;rw[g4]at k4;cases k4;exact g5
 refine W.enter_call (codeAny_mono (pU (R:=[]) (cl:=classAt s_0.heap) (d0:=r.ret.enc (Codec.app r.args r.f a)) KX G.T.g G.T.b G.T.builtins G.T.nolimit G.T.nodigits (G.T.seer himp) G.T.bmain hg hwl (kj _ _) (jn hlay) hr hC hPn hPh hF hb (by rw[jv];exact hlen)
  (λH xs hP hS=>hsp Pt _ H xs a hP hwi e2 hS) λH e s'=>hCX w H s₁ e s') λr' s' hq=>?_)
 obtain⟨u,as',rfl,h1,h2,h3,h4⟩:=hq;exact⟨.inl ⟨u,_,as',rfl,λ_=>rfl,h1,(OpenSpec.post_iff hwell hwi _ _).mpr rfl,λz=>Bool.noConfusion (show false=true from z)⟩,h2,h3,h4⟩
end L2
namespace Th
open PySem PySem.Spec PySem.W PyProof.Rows L2
theorem Aq {K:W.Frag}{H:Hp}{x:V}{l:List Int}(h:Dw K H x (.list (l.map WData.int))):∃ p,x=.ref p/\C9 K H p (l.map V.int):=by
 cases h with
 |lst hs hd =>
  rw[su l _ hd]at hs;exact⟨_,rfl,hs⟩
theorem jZ:∀ {l:List Int},(∀ z∈l,0<=z/\z<=255)->j0 (LensDNeutral.text l)=l.map V.int
 |[],_=>rfl
 |z::l,h=>by
  have h1:=h z List.mem_cons_self;have:=jZ λx hx=>h x (List.mem_cons_of_mem z hx);show V.int (((UInt8.ofNat z.toNat).toNat:Nat):Int)::j0 (LensDNeutral.text l)=V.int z::l.map V.int;rw[this];have e:(UInt8.ofNat z.toNat).toNat=z.toNat:=by
   show z.toNat%256=z.toNat;exact Nat.mod_eq_of_lt (by omega)
  rw[e,Int.toNat_of_nonneg h1.1]
theorem P8 {K:W.Frag}{H:Hp}{Pt:Addr}{x:V}{l:List Int}(hP:H Pt=some (.tbl #[]))(hl:∀ z∈l,0<=z/\z<=255)(h:Dw K H x (.list (l.map WData.int))):Bs K (lX H Pt) x (LensDNeutral.text l):=by
 obtain⟨p,e,h⟩:=Aq h;exact⟨p,e,by rw[jZ hl];exact xl hP h⟩
theorem P6 {m:Nat}{l:List Int}(h:(Codec.list 0 m (Codec.int (Int.ofNat 0) (Int.ofNat 255))).within l=true):∀ z∈l,0<=z/\z<=255:=by
 intro z hz;have h:Codec.inList 0 m (Codec.inInt (Int.ofNat 0) (Int.ofNat 255)) l=true:=h;simp only[Codec.inList,Codec.inInt,Bool.and_eq_true,List.all_eq_true,decide_eq_true_eq]at h;have:=h.2 z hz;exact⟨by simpa using this.1,by simpa using this.2⟩
def prog:Program:=PySem.Challenge.pw_thirdsums_s04_off
def top (i:Nat):Stmt:=PySem.Challenge.pw_thirdsums_s04_off.main.body.getD i (.Pass ⟨0,0,0,0⟩)
abbrev O6:Stmt:=top 3
abbrev dH:Stmt:=top 4
abbrev dF:Stmt:=top 5
abbrev qd:Stmt:=top 6
abbrev lP:Stmt:=top 7
abbrev lO:Stmt:=top 8
abbrev qe:Stmt:=top 9
abbrev K7:Stmt:=N4 (top 12) 0
abbrev dG:Stmt:=top 22
abbrev aV:Stmt:=top 23
abbrev W5:Stmt:=top 24
abbrev Q5:Stmt:=top 25
abbrev O4:Stmt:=top 26
abbrev X0:Stmt:=top 27
abbrev T6:Stmt:=top 29
abbrev O5:Stmt:=top 30
abbrev Q2:Stmt:=top 31
abbrev dE:Stmt:=top 32
abbrev iM:Stmt:=top 33
abbrev W7:Stmt:=top 34
abbrev fS:Stmt:=top 35
abbrev O8:Stmt:=top 36
abbrev V6:Stmt:=top 37
abbrev dI:Stmt:=top 38
abbrev Z3:Stmt:=top 39
abbrev T8:Stmt:=N4 (top 41) 0
abbrev iL:Stmt:=top 42
abbrev fR:Stmt:=top 43
abbrev Q3:Stmt:=top 44
abbrev W6:Stmt:=top 45
abbrev aT:Stmt:=top 47
abbrev iN:Stmt:=top 48
abbrev lQ:Stmt:=top 49
abbrev Z4:Stmt:=top 50
abbrev X1:Stmt:=top 58
abbrev T7:Stmt:=top 59
abbrev aX:Stmt:=top 60
abbrev N2:Stmt:=top 61
abbrev aS:Stmt:=top 62
abbrev X2:Stmt:=top 63
abbrev T5:Stmt:=top 64
abbrev aK:Stmt:=top 65
abbrev U0:Stmt:=N4 (top 74) 0
abbrev X3:Stmt:=N4 (top 75) 0
abbrev X7:Stmt:=N4 (top 76) 0
abbrev X6:Stmt:=N4 (top 76) 1
abbrev T9:Stmt:=N4 (top 76) 2
abbrev Q6:Stmt:=N4 (top 76) 3
abbrev Q7:Stmt:=N4 (top 76) 4
abbrev X5:Stmt:=N4 (top 76) 5
abbrev X4:Stmt:=N4 (top 76) 6
abbrev S9:Stmt:=top 77
abbrev W9:Stmt:=top 78
abbrev aL:Stmt:=top 79
abbrev F2:Stmt:=top 80
abbrev aM:Stmt:=top 81
abbrev Q4:Stmt:=top 82
abbrev M5:Stmt:=top 83
abbrev aN:Stmt:=top 84
abbrev T3:Stmt:=top 85
abbrev aP:Stmt:=top 86
abbrev aQ:Stmt:=top 87
abbrev aR:Stmt:=top 88
abbrev T4:Stmt:=top 89
abbrev cf:Stmt:=top 90
abbrev W8:Stmt:=top 91
abbrev aU:Stmt:=top 94
abbrev lN:Stmt:=top 95
abbrev S8:Stmt:=top 99
abbrev aY:Stmt:=top 100
abbrev gn:Stmt:=top 101
theorem Y9:prog.given.tree=none:=rfl
theorem Eb {i j:Int}{A B:Prop}(h1:i≠j->A)(h2:i=j->B):if(!decide (V.int i=V.int j))=true then A else B:=by
 by_cases h:i=j
 ·rw[if_neg (by simp[h])];exact h2 h
 ·rw[if_pos (by simp[h])];exact h1 h
theorem N5 {i j:Int}{A B:Prop}(h1:i=j->A)(h2:i≠j->B):if(decide (V.int i=V.int j))=true then A else B:=by
 by_cases h:i=j
 ·rw[if_pos (by simp[h])];exact h1 h
 ·rw[if_neg (by simp[h])];exact h2 h
theorem B4 {c:Prop}[Decidable c]{A B:Prop}(h1:c->A)(h2:¬ c->B):if(decide c)=true then A else B:=by
 by_cases h:c
 ·rw[if_pos (by simp[h])];exact h1 h
 ·rw[if_neg (by simp[h])];exact h2 h
theorem N9 {b:Bool}{A B:Prop}(h1:b=true->A)(h2:b=false->B):if b=true then A else B:=by
 cases b with
 |true=>rw[if_pos rfl];exact h1 rfl
 |false=>rw[if_neg (by decide)];exact h2 rfl
noncomputable def ke (i:Nat)(σ:L2.St):Nat:=match σ[i]? with
 |some (some (.int j))=>j.toNat
 |_=>0
theorem cQ (i:Int):(if i<0 then -i else i)=((i.natAbs:Nat):Int):=by
 by_cases h:i<0
 ·rw[if_pos h];omega
 ·rw[if_neg h];omega
structure Tx (K:W.Frag)(mg:Str->Option Value):Prop where
 abs_:mg "abs"=none
 len_:mg "len"=none
variable {w:World}{K:W.Frag}{mg:Str->Option Value}{base:Heap}{CN CF CR CE CS CT CP CO CL:Addr}
def wo:Sp:=λvs H Q _=>∃ a b:Nat,vs=[.int (a:Int),.int (b:Int)]/\Q (.int ((Nat.gcd a b:Nat):Int)) H
theorem lM:i6 ["a","b","rest"] ["a","b"] (d8 O6):=⟨rfl,rfl,rfl,by decide +kernel,rfl,by decide +kernel,by decide +kernel⟩
theorem Dj {f:Addr}{fd:FuncData}(F:F1 K "common_divisor" "common_divisor" O6 f fd):o8 prog w K mg base (A7 prog w) 1 f fd ["a","b"] wo:=by
 refine F.okX lM (λvs H Q E h=>?_) (λcdv A outer s H vs Q E hr h=>?_)
 ·obtain⟨a,b,rfl,_⟩:=h;rfl
 ·obtain⟨a,b,rfl,k⟩:=h;refine a0 _ (c8 (Z5 J3 (m9 AZ (pv 1) g8 (n9 _)) (c8 (i7 (i:=2) lM.nd rfl (Or.inl rfl) (i5 Ck (pv 0) (pv 1))) (c8 (i7 (i:=0) lM.nd rfl (Or.inl rfl) (pv 1)) (d7 (i7 (i:=1) lM.nd rfl (Or.inl rfl) (pv 2)))))) (d7 (j1 (pv 0)))) ?_;refine Y7 (λσ H'=>H'=H/\∃ (m n:Nat) (r:Option V),σ=[some (.int (m:Int)),some (.int (n:Int)),r]/\Nat.gcd m n=Nat.gcd a b) (λσ _=>ke 1 σ) ⟨rfl,I0 a b none ⟨rfl,rfl⟩⟩ ?_ (λσ H Q Q' hq ⟨x,e,h1,z,e2,q⟩=>(g9 x e h1 (a0 z e2 (hq _ _ q))));rintro σ H' ⟨rfl,m,n,r,rfl,e⟩;refine g9 _ rfl rfl (a0 _ rfl (Eb (λhn=>?_) (λhn=>?_)))
  ·have hp:0<n:=by omega
   refine a0 _ rfl (a0 _ rfl (i3 _ _ rfl rfl (by show(0:Int)<(n:Int);omega) (a0 _ rfl (g9 _ rfl ⟨rfl,I0 n (m%n) _ ⟨rfl,?_⟩⟩ ?_))))
   ·rw[<-e,Nat.gcd_comm m n,Nat.gcd_comm n (m%n),<-Nat.gcd_rec]
   ·show((m:Int)%(n:Int)).toNat<((n:Int)).toNat;have:=Nat.mod_lt m hp;omega
  ·have:n=0:=by omega
   subst this;refine a0 _ rfl ?_;rw[<-e,Nat.gcd_zero_right]at k;exact k
def dD (K:W.Frag):Sp:=λvs H Q _=>∃ (G:Hp) (a b:Int),vs=[.int a,.int b]/\b≠0/\l7 G H/\∀ v G' H',j6 [] G H G' H'->Fr K G' v ((a:Rat)/(b:Rat))->Q v H'
theorem eE:i6 ["top","bottom","common"] ["top","bottom"] (d8 dH):=⟨rfl,rfl,rfl,by decide +kernel,rfl,by decide +kernel,by decide +kernel⟩
theorem zJ {f:Addr}{fd:FuncData}(F:F1 K "fraction" "fraction" dH f fd)(T:Tx K mg)(Dg:B8 prog w K mg base 1 "common_divisor" ["a","b"] wo):o8 prog w K mg base (A7 prog w) 2 f fd ["top","bottom"] (dD K):=by
 refine F.okX eE (λvs H Q E h=>?_) (λcdv A outer s H vs Q E hr h=>?_)
 ·obtain⟨G,a,b,rfl,_⟩:=h;rfl
 ·obtain⟨G,a,b,rfl,hb,sm,k⟩:=h;have dp:=fj (w:=w) (K:=K) (mg:=mg) (base:=base) (N:=["top","bottom","common"]) (outer:=outer) (H0:=H) (E:=E) Y9 eE.gen eE.co hr;refine a0 _ (c8 (i7 (i:=2) eE.nd rfl (Or.inl rfl) (d9 Dg hr d6 (c7 (A6 jF rfl T.abs_ boot_abs (c7 (pv 0) d4)) (c7 (A6 jF rfl T.abs_ boot_abs (c7 (pv 1) d4)) d4))))
   (c8 (y2 (m9 jc (pv 1) g8 (n9 _)) (d7 (i7 (i:=2) eE.nd rfl (Or.inl rfl) (eM aA (pv 2)))) l6)
   (d7 (j1 (z9 (c7 (i5 (P5 dp) (pv 0) (pv 2)) (c7 (i5 (P5 dp) (pv 1) (pv 2)) d4))))))) ?_
  have e:=Ma.yd a b hb;have hg:0<Nat.gcd a.natAbs b.natAbs:=Nat.gcd_pos_of_pos_right _ (by omega);refine a0 _ rfl (a0 _ rfl (a0 _ rfl (a0 _ rfl (J0 a.natAbs b.natAbs (by rw[cQ,cQ];rfl) ?_))));refine a0 _ rfl (h9 _ _ rfl rfl (a0 _ rfl (B4 (λhn=>?_) (λhn=>?_))))
  ·rw[if_pos hn]at e;refine a0 _ rfl (a0 _ rfl (a0 _ rfl (a0 _ rfl (i3 _ _ rfl rfl (by show -((Nat.gcd a.natAbs b.natAbs:Nat):Int)≠0;omega) (a0 _ rfl (a0 _ rfl (J5 _ _ rfl rfl (by show -((Nat.gcd a.natAbs b.natAbs:Nat):Int)≠0;omega) (by show 2<=sizeLine;decide) (λp hp=>?_))))))));have kk:=k _ _ _ ((j6.refl sm).lay hp (o:=.tup [.int ((a:Rat)/(b:Rat)).num,.int (((a:Rat)/(b:Rat)).den:Int)])) (a0 p rfl (.of c9));rw[<-e.1,<-e.2]at kk;exact kk
  ·rw[if_neg hn]at e;refine a0 _ rfl (a0 _ rfl (i3 _ _ rfl rfl (by show((Nat.gcd a.natAbs b.natAbs:Nat):Int)≠0;omega) (a0 _ rfl (a0 _ rfl (J5 _ _ rfl rfl (by show((Nat.gcd a.natAbs b.natAbs:Nat):Int)≠0;omega) (by show 2<=sizeLine;decide) (λp hp=>?_))))));have kk:=k _ _ _ ((j6.refl sm).lay hp (o:=.tup [.int ((a:Rat)/(b:Rat)).num,.int (((a:Rat)/(b:Rat)).den:Int)])) (a0 p rfl (.of c9));rw[<-e.1,<-e.2]at kk;exact kk
def Gn (K:W.Frag)(i:Nat)(j:Int):TE:=λσ H Q=>∃ p xs v,σ[i]?=some (some (.ref p))/\W2 K H p xs/\uU xs j=some v/\Q v H
theorem px {X:Cx}(i:Nat){x:Str}{j:Int}{z:Nat}{p1 p2 pos:Pos}(h:PE X (.Name x p1) (J6 i)):PE X (.Subscript (.Name x p1) (.Constant (.int j) z p2) pos) (Gn X.K i j):=by
 intro pins s σ H Q I ⟨p,xs,v,e1,e2,e3,q⟩;exact m7 r9 h g8 (λ_ _=>rfl) pins s σ H Q I (a0 _ e1 (j5 p xs j v rfl rfl e2 e3 q))
abbrev qN (q:Rat):Prop:=Ma.Sz 30000000 q
theorem Hy {p q:Rat}(hp:qN p)(hq:qN q):CB p.num q.num:=⟨hp.num.mono (by decide),hq.num.mono (by decide)⟩
theorem Hk {p q:Rat}(hp:qN p)(hq:qN q):CB p.den q.den:=⟨hp.den.mono (by decide),hq.den.mono (by decide)⟩
theorem Et {p q:Rat}(hp:qN p)(hq:qN q):CB p.num q.den:=⟨hp.num.mono (by decide),hq.den.mono (by decide)⟩
theorem GM {p q:Rat}(hp:qN p)(hq:qN q):CB p.den q.num:=⟨hp.den.mono (by decide),hq.num.mono (by decide)⟩
def sp1 (K:W.Frag)(C:Rat->Prop)(f:Rat->Rat):Sp:=λvs H Q _=>∃ (G:Hp) (a:V) (p:Rat),vs=[a]/\l7 G H/\Fr K G a p/\C p/\∀ v G' H',j6 [] G H G' H'->Fr K G' v (f p)->Q v H'
def rq (K:W.Frag)(C:Rat->Rat->Prop)(f:Rat->Rat->Rat):Sp:=λvs H Q _=>∃ (G:Hp) (a b:V) (p q:Rat),vs=[a,b]/\l7 G H/\Fr K G a p/\Fr K G b q/\C p q/\∀ v G' H',j6 [] G H G' H'->Fr K G' v (f p q)->Q v H'
def mU (p q:Rat):Prop:=qN p/\qN q
theorem BR:i6 ["x"] ["x"] (d8 dF):=⟨rfl,rfl,rfl,by decide +kernel,rfl,by decide +kernel,by decide +kernel⟩
theorem CU {f:Addr}{fd:FuncData}(F:F1 K "negative" "negative" dF f fd):o8 prog w K mg base (A7 prog w) 1 f fd ["x"] (sp1 K (λ_=>True) λp=>-p):=by
 refine F.okX BR (λvs H Q E h=>?_) (λcdv A outer s H vs Q E hr h=>?_)
 ·obtain⟨G,a,p,rfl,_⟩:=h;rfl
 ·obtain⟨G,_,p,rfl,sm,⟨a,rfl,ha⟩,_,k⟩:=h;refine a0 _ (d7 (j1 (z9 (c7 (eM aA (px 0 (pv 0))) (c7 (px 0 (pv 0)) d4))))) ?_;refine m8 a _ _ rfl (sm.seqT ha) rfl (a0 _ rfl (z8 a _ _ rfl (sm.seqT ha) rfl (by show 2<=sizeLine;decide) (λl hl=>?_)));have kk:=k _ _ _ ((j6.refl sm).lay hl (o:=.tup [.int (-p).num,.int ((-p).den:Int)])) (a0 l rfl (.of c9));rw[Rat.neg_num,Rat.neg_den]at kk;exact kk
theorem yY:i6 ["x","y"] ["x","y"] (d8 qd):=⟨rfl,rfl,rfl,by decide +kernel,rfl,by decide +kernel,by decide +kernel⟩
theorem zD {f:Addr}{fd:FuncData}(F:F1 K "plus" "plus" qd f fd)(Df:B8 prog w K mg base 2 "fraction" ["top","bottom"] (dD K)):o8 prog w K mg base (A7 prog w) 3 f fd ["x","y"] (rq K mU λp q=>p+q):=by
 refine F.okX yY (λvs H Q E h=>?_) (λcdv A outer s H vs Q E hr h=>?_)
 ·obtain⟨G,a,b,p,q,rfl,_⟩:=h;rfl
 ·obtain⟨G,_,_,p,q,rfl,sm,⟨a,rfl,ha⟩,⟨b,rfl,hb⟩,⟨bp,bq⟩,k⟩:=h;refine a0 _ (d7 (j1 (d9 Df hr d6 (c7 (i5 C7 (i5 i4 (px 0 (pv 0)) (px 1 (pv 1))) (i5 i4 (px 1 (pv 1)) (px 0 (pv 0)))) (c7 (i5 i4 (px 0 (pv 0)) (px 1 (pv 1))) d4))))) ?_;refine m8 a _ _ rfl (sm.seqT ha) rfl (m8 b _ _ rfl (sm.seqT hb) rfl (i3 _ _ rfl rfl (Et bp bq) (m8 b _ _ rfl (sm.seqT hb) rfl (m8 a _ _ rfl (sm.seqT ha) rfl (i3 _ _ rfl rfl (Et bq bp) (h9 _ _ rfl rfl (m8 a _ _ rfl (sm.seqT ha) rfl (m8 b _ _ rfl (sm.seqT hb) rfl (i3 _ _ rfl rfl (Hk bp bq) (m8 G _ _ rfl (Int.mul_ne_zero (Ma.D4 p) (Ma.D4 q)) sm (λv G' H' e h=>?_)))))))))));refine k v G' H' e ?_;show L2.Fr K G' v (p+q);rw[Ma.yu];exact h
theorem wD:i6 ["x","y"] ["x","y"] (d8 lP):=⟨rfl,rfl,rfl,by decide +kernel,rfl,by decide +kernel,by decide +kernel⟩
theorem xj {f:Addr}{fd:FuncData}(F:F1 K "minus" "minus" lP f fd)(Dn:B8 prog w K mg base 1 "negative" ["x"] (sp1 K (λ_=>True) λp=>-p))(Dp:B8 prog w K mg base 3 "plus" ["x","y"] (rq K mU λp q=>p+q)):o8 prog w K mg base (A7 prog w) 4 f fd ["x","y"] (rq K mU λp q=>p-q):=by
 refine F.okX wD (λvs H Q E h=>?_) (λcdv A outer s H vs Q E hr h=>?_)
 ·obtain⟨G,a,b,p,q,rfl,_⟩:=h;rfl
 ·obtain⟨G,a,b,p,q,rfl,sm,ha,hb,⟨bp,bq⟩,k⟩:=h;refine a0 _ (d7 (j1 (d9 Dp hr d6 (c7 (pv 0) (c7 (d9 Dn (hr.mono (by decide)) d6 (c7 (pv 1) d4)) d4))))) ?_;refine a0 _ rfl (a0 _ rfl (z8 G _ q rfl sm hb trivial (λv G1 H1 e1 h1=>?_)));refine l4 G1 _ _ p (-q) rfl e1.sub (Fr.mono _ _ _ _ e1.grow ha) h1 ⟨bp,bq.neg⟩ (λv G2 H2 e2 h2=>?_);refine k v G2 H2 (e1.trans e2) ?_;show L2.Fr K G2 v (p-q);rw[Rat.sub_eq_add_neg];exact h2
theorem wy:i6 ["x","y"] ["x","y"] (d8 lO):=⟨rfl,rfl,rfl,by decide +kernel,rfl,by decide +kernel,by decide +kernel⟩
theorem xb {f:Addr}{fd:FuncData}(F:F1 K "times" "times" lO f fd)(Df:B8 prog w K mg base 2 "fraction" ["top","bottom"] (dD K)):o8 prog w K mg base (A7 prog w) 3 f fd ["x","y"] (rq K mU λp q=>p*q):=by
 refine F.okX wy (λvs H Q E h=>?_) (λcdv A outer s H vs Q E hr h=>?_)
 ·obtain⟨G,a,b,p,q,rfl,_⟩:=h;rfl
 ·obtain⟨G,_,_,p,q,rfl,sm,⟨a,rfl,ha⟩,⟨b,rfl,hb⟩,⟨bp,bq⟩,k⟩:=h;refine a0 _ (d7 (j1 (d9 Df hr d6 (c7 (i5 i4 (px 0 (pv 0)) (px 1 (pv 1))) (c7 (i5 i4 (px 0 (pv 0)) (px 1 (pv 1))) d4))))) ?_;refine m8 a _ _ rfl (sm.seqT ha) rfl (m8 b _ _ rfl (sm.seqT hb) rfl (i3 _ _ rfl rfl (Hy bp bq) (m8 a _ _ rfl (sm.seqT ha) rfl (m8 b _ _ rfl (sm.seqT hb) rfl (i3 _ _ rfl rfl (Hk bp bq) (m8 G _ _ rfl (Int.mul_ne_zero (Ma.D4 p) (Ma.D4 q)) sm (λv G' H' e h=>?_)))))));refine k v G' H' e ?_;show L2.Fr K G' v (p*q);rw[Ma.xt];exact h
def yz (p q:Rat):Prop:=qN p/\qN q/\q≠0
theorem yZ:i6 ["x","y"] ["x","y"] (d8 qe):=⟨rfl,rfl,rfl,by decide +kernel,rfl,by decide +kernel,by decide +kernel⟩
theorem zF {f:Addr}{fd:FuncData}(F:F1 K "over" "over" qe f fd)(Df:B8 prog w K mg base 2 "fraction" ["top","bottom"] (dD K)):o8 prog w K mg base (A7 prog w) 3 f fd ["x","y"] (rq K yz λp q=>p/q):=by
 refine F.okX yZ (λvs H Q E h=>?_) (λcdv A outer s H vs Q E hr h=>?_)
 ·obtain⟨G,a,b,p,q,rfl,_⟩:=h;rfl
 ·obtain⟨G,_,_,p,q,rfl,sm,⟨a,rfl,ha⟩,⟨b,rfl,hb⟩,⟨bp,bq,hq⟩,k⟩:=h;have hn:q.num≠0:=λz=>hq (Rat.num_eq_zero.mp z);refine a0 _ (d7 (j1 (d9 Df hr d6 (c7 (i5 i4 (px 0 (pv 0)) (px 1 (pv 1))) (c7 (i5 i4 (px 0 (pv 0)) (px 1 (pv 1))) d4))))) ?_;refine m8 a _ _ rfl (sm.seqT ha) rfl (m8 b _ _ rfl (sm.seqT hb) rfl (i3 _ _ rfl rfl (Et bp bq) (m8 a _ _ rfl (sm.seqT ha) rfl (m8 b _ _ rfl (sm.seqT hb) rfl (i3 _ _ rfl rfl (GM bp bq) (m8 G _ _ rfl (Int.mul_ne_zero (Ma.D4 p) hn) sm (λv G' H' e h=>?_)))))));refine k v G' H' e ?_;show L2.Fr K G' v (p/q);rw[Ma.qG p q hq];exact h
theorem mD {K:W.Frag}{H:Hp}:∀ ns:List Int,DpAll K H (ns.map V.int) (ns.map PyData.int)
 |[]=>.nil
 |n::r=>.cons (.int n) (mD r)
theorem pj:∀ (ns ms:List Int),PyData.eqvAll (ns.map PyData.int) (ms.map PyData.int)=decide (ns=ms)
 |[],[]=>rfl
 |[],_::_=>rfl
 |_::_,[]=>rfl
 |n::ns,m::ms=>by
  show(n==m&&PyData.eqvAll (ns.map PyData.int) (ms.map PyData.int))=_;rw[pj ns ms];by_cases h:n=m
  ·subst h;simp
  ·simp[h]
def Gz (K:W.Frag):R2:=λx y H Q=>∃ p q,∃ ns ms:List Int,x=.ref p/\y=.ref q/\C9 K H p (ns.map V.int)/\C9 K H q (ms.map V.int)/\Q (.bl (decide (ns=ms))) H
theorem jd {X:Cx}(hu:X.A.units+64<cLine):fB X (compareOp .Eq) (Gz X.K):=by
 intro pins s σ H x y v u Q I rx ry ⟨p,q,ns,ms,hx,hy,h1,h2,hq⟩;subst hx hy;refine Cm hu pins s σ H _ _ v u Q I rx ry (J5 (.list (ns.map PyData.int)) (.list (ms.map PyData.int)) (.lst h1 (mD _)) (.lst h2 (mD _)) (W.ke_shaped_ints _) (W.ke_shaped_ints _) ?_);show Q (.bl (PyData.eqvAll _ _)) H;rw[pj];exact hq
noncomputable def B3 (b:List UInt8):List Int:=b.map λ(c:UInt8)=>(c.toNat:Int)
theorem M6 (b:List UInt8):j0 b=(B3 b).map V.int:=by
 unfold j0 B3;rw[List.map_map];rfl
theorem aj:∀ {a b:List UInt8},B3 a=B3 b->a=b
 |[],[],_=>rfl
 |[],_::_,h=>by cases h
 |_::_,[],h=>by cases h
 |x::a,y::b,h=>by
  have h1:((x.toNat:Int))=(y.toNat:Int)/\B3 a=B3 b:=by
   have:=List.cons.inj h;exact this
  have e:x=y:=UInt8.toNat_inj.mp (by omega);rw[e,aj h1.2]
theorem j4 (b:List UInt8):(j0 b).length=b.length:=by unfold j0;rw[List.length_map]
theorem bo {b:List UInt8}{i:Nat}(h:i<b.length):(j0 b)[i]?=some (.int ((b[i]).toNat:Int)):=by
 unfold j0;rw[List.getElem?_map,List.getElem?_eq_getElem h];rfl
theorem P0 {b:List UInt8}{i:Nat}(h:i<b.length):uU (j0 b) (i:Int)=some (.int ((b[i]).toNat:Int)):=mH (bo h)
theorem fY (b:List UInt8)(lo hi:Nat)(h1:lo<=b.length)(h2:hi<=b.length):aq (j0 b) (some (lo:Int)) (some (hi:Int))=j0 ((b.drop lo).take (hi-lo)):=by
 unfold aq;rw[j4,HT.sIx_nat,HT.sIx_nat,Nat.min_eq_left h1,Nat.min_eq_left h2];unfold j0;rw[List.map_take,List.map_drop]
theorem qH (b:List UInt8)(hi:Nat)(h2:hi<=b.length):aq (j0 b) none (some (hi:Int))=j0 (b.take hi):=by
 unfold aq;rw[j4,HT.sIx_none,HT.sIx_nat,Nat.min_eq_left h2];unfold j0;rw[List.map_take];rfl
theorem jA (b:List UInt8)(lo:Nat):aq (j0 b) (some (lo:Int)) none=j0 (b.drop lo):=by
 unfold aq;rw[j4,HT.sIx_none,HT.sIx_nat];unfold j0;by_cases h:lo<=b.length
 ·rw[Nat.min_eq_left h,<-List.map_drop,List.take_of_length_le (by simp)]
 ·rw[Nat.min_eq_right (by omega),Nat.sub_self,List.drop_eq_nil_of_le (by omega:b.length<=lo)];simp
def Bl:Rl (List UInt8):=λG v b=>∃ p,v=.ref p/\G p=some (.lst (j0 b))
theorem Bl.mono:yx Bl:=λ_ _ _ _ s ⟨p,e,h⟩=>(a0 p e (s _ _ h))
theorem Bl.bs {K:W.Frag}{G:Hp}{v:V}{b:List UInt8}(h:Bl G v b):Bs K G v b:=let⟨p,e,h⟩:=h;(a0 p e (.of h))
def GI (mg:Str->Option Value)(x:Str)(i:Int):Prop:=∃ t,mg x=some (.int i t)
theorem fU {X:Cx}{x:Str}{i:Int}{pos:Pos}(h:GI X.mg x i)(hg:Gl X x:=by rfl)(hd:(x==("__debug__" : Str))=false:=by decide):PE X (.Name x pos) (tC (.int i)) :=
 let⟨t,e⟩:=h;C6 hg e (l9 t rfl) hd
structure XC (K:W.Frag)(mg:Str->Option Value)(x:Str)(C:Addr):Prop where
 m:mg x=some (.ref C)
 c:FW K C
structure Td (K:W.Frag)(mg:Str->Option Value)(CN:Addr):Prop extends Tx K mg where
 minus_:GI mg "MINUS" 45
 point_:GI mg "POINT" 46
 slash_:GI mg "SLASH" 47
 most_:GI mg "MOST_BYTES" 512
 great_:GI mg "TOO_GREAT" 1000000000000000000
 nt:XC K mg "NotTaken" CN
def hU:Sp:=λvs H Q _=>∃ c:UInt8,vs=[.int (c.toNat:Int)]/\Q (.bl (Ln.Text.isDigit c)) H
theorem Ar (c:UInt8):Ln.Text.isDigit c=(decide ((48:Int)<=(c.toNat:Int))&&decide ((c.toNat:Int)<=57)):=by
 unfold Ln.Text.isDigit;simp only[UInt8.le_iff_toNat_le];have e1:decide (UInt8.toNat 48<=c.toNat)=decide ((48:Int)<=(c.toNat:Int)):=by
  rw[show UInt8.toNat 48=48 from rfl];exact decide_eq_decide.mpr (by omega)
 have e2:decide (c.toNat<=UInt8.toNat 57)=decide ((c.toNat:Int)<=57):=by
  rw[show UInt8.toNat 57=57 from rfl];exact decide_eq_decide.mpr (by omega)
 rw[e1,e2]
theorem wF:i6 ["byte"] ["byte"] (d8 dG):=⟨rfl,rfl,rfl,by decide +kernel,rfl,by decide +kernel,by decide +kernel⟩
theorem xk {f:Addr}{fd:FuncData}(F:F1 K "is_digit" "is_digit" dG f fd):o8 prog w K mg base (A7 prog w) 1 f fd ["byte"] hU:=by
 refine F.okX wF (λvs H Q E h=>?_) (λcdv A outer s H vs Q E hr h=>?_)
 ·obtain⟨c,rfl,_⟩:=h;rfl
 ·obtain⟨c,rfl,k⟩:=h;refine a0 _ (d7 (j1 (iY kr kr g8 (pv 0) g8))) ?_;rw[Ar]at k;refine a0 _ rfl (h9 _ _ rfl rfl (a0 _ rfl (B4 (λh1=>?_) (λh1=>?_))))
  ·refine h9 _ _ rfl rfl ?_;rw[decide_eq_true h1,Bool.true_and]at k;exact k
  ·rw[decide_eq_false h1,Bool.false_and]at k;exact k
noncomputable def R0 (b:List UInt8):Nat:=(b.takeWhile Ln.Text.isDigit).length
def iG (K:W.Frag):Sp:=λvs H Q _=>∃ (G:Hp) (a:V) (b:List UInt8) (p:Nat),vs=[a,.int (p:Int)]/\l7 G H/\Bs K G a b/\Q (.int ((p+R0 (b.drop p):Nat):Int)) H
theorem kg:i6 ["text","place"] ["text","place"] (d8 aV):=⟨rfl,rfl,rfl,by decide +kernel,rfl,by decide +kernel,by decide +kernel⟩
theorem G0 {b:List UInt8}{i:Nat}(h:i<b.length):b.drop i=b[i]::b.drop (i+1):=List.drop_eq_getElem_cons h
theorem yH {b:List UInt8}{i:Nat}(h:i<b.length)(hd:Ln.Text.isDigit b[i]=true):i+1+R0 (b.drop (i+1))=i+R0 (b.drop i):=by
 rw[G0 h];unfold R0;rw[List.takeWhile_cons,hd,if_pos rfl,List.length_cons];rw[Nat.add_assoc,Nat.add_comm 1]
theorem vD {b:List UInt8}{i:Nat}(h:i<b.length)(hd:Ln.Text.isDigit b[i]=false):R0 (b.drop i)=0:=by
 rw[G0 h];unfold R0;rw[List.takeWhile_cons,hd,if_neg (by decide)];rfl
theorem ue {f:Addr}{fd:FuncData}(F:F1 K "digits_end" "digits_end" aV f fd)(T:Td K mg CN)(Dd:B8 prog w K mg base 1 "is_digit" ["byte"] hU):o8 prog w K mg base (A7 prog w) 2 f fd ["text","place"] (iG K):=by
 refine F.okX kg (λvs H Q E h=>?_) (λcdv A outer s H vs Q E hr h=>?_)
 ·obtain⟨G,a,b,p,rfl,_⟩:=h;rfl
 ·obtain⟨G,_,b,p,rfl,sm,⟨a,rfl,ha⟩,k⟩:=h;refine a0 _ (c8 (Z5 J3 (lR (m9 jc (pv 1) (A6 B0 (by rfl) T.len_ boot_len (c7 (pv 0) d4)) (n9 _)) (ib (E8 (d9 Dd hr d6 (c7 (m7 u9 (pv 0) (pv 1) (λ_ _=>rfl)) d4))))).pt
   (d7 (ck (i:=1) kg.nd rfl (Or.inl rfl) g8 qz))) (d7 (j1 (pv 1)))) ?_
  refine Y7 (λσ H'=>H'=H/\∃ i:Nat,σ=[some (.ref a),some (.int (i:Int))]/\i+R0 (b.drop i)=p+R0 (b.drop p)) (λσ _=>b.length-ke 1 σ) ⟨rfl,a0 p rfl rfl⟩ ?_ ?_
  ·rintro σ H' ⟨rfl,i,rfl,e⟩;refine a0 _ rfl (a0 _ rfl (h9 a _ rfl (.inl (sm.seq ha)) (h9 _ _ rfl rfl (a0 _ rfl (B4 (λh1=>?_) (λh1=>?_))))))
   ·have hi:i<b.length:=by rw[j4]at h1;omega
    refine a0 _ rfl (a0 _ rfl (j5 a _ _ _ rfl rfl (sm.seq ha) (P0 hi) (a0 (b[i]) rfl (a0 _ rfl (N9 (λh2=>?_) (λh2=>?_))))))
    ·refine a0 _ rfl (i3 _ _ rfl rfl ⟨rfl,a0 (i+1) rfl ?_⟩ ?_)
     ·rw[yH hi h2];exact e
     ·show b.length-((i:Int)+1).toNat<b.length-((i:Int)).toNat;omega
    ·refine a0 _ rfl ?_;rw[<-e,vD hi h2]at k;exact k
   ·refine fW ?_;have hi:b.length<=i:=by rw[j4]at h1;omega
    refine a0 _ rfl ?_;rw[<-e,List.drop_eq_nil_of_le hi]at k;exact k
  ·rintro σ H Q Q' hq ⟨x,e,y,e2,p,ys,e3,h3,i,j,e4,e5,z,e6,h⟩;refine a0 x e (a0 y e2 (h9 p ys e3 h3 (h9 i j e4 e5 (a0 z e6 ?_))));cases z with
   |false=>rw[if_neg (by decide)]at h⊢;exact hq _ _ h
   |true =>
    rw[if_pos rfl]at h⊢;obtain⟨x1,f1,x2,f2,g1,g2,g3,g4,f3,f4,f5,f6,c,f7,u,f8,h⟩:=h;exact a0 x1 f1 (a0 x2 f2 (j5 g1 g2 g3 g4 f3 f4 f5 f6 (a0 c f7 (a0 u f8 (hq _ _ h)))))
open Ln (Bytes)
open Ln.Text (isDigit natural)
theorem dC {b:Bytes}{i:Nat}(h:i<b.length):b.take (i+1)=b.take i++[b[i]]:=by
 rw[List.take_add_one,List.getElem?_eq_getElem h];rfl
theorem lY (b:Bytes)(c:UInt8):natural (b++[c])=10*natural b+(c.toNat-48):=by
 unfold natural;rw[List.foldl_append];rfl
theorem yl {c:UInt8}(h:isDigit c=true):48<=c.toNat/\c.toNat<=57:=by
 unfold isDigit at h;simp only[Bool.and_eq_true,decide_eq_true_eq,UInt8.le_iff_toNat_le]at h;exact h
theorem sV {b:Bytes}(h:b.all isDigit=true){i:Nat}(hi:i<b.length):isDigit b[i]=true:=List.all_eq_true.mp h _ (List.getElem_mem hi)
theorem uH {b:Bytes}{i:Nat}{x:V}(h:(j0 b)[i]?=some x):∃ hi:i<b.length,x=.int ((b[i]).toNat:Int):=by
 have hi:i<b.length:=by
  have:=(List.getElem?_eq_some_iff.mp h).1;rw[j4]at this;exact this
 refine l9 hi ?_;rw[bo hi]at h;exact(Option.some.inj h).symm
theorem yP {n:Nat}(h:n<=100000):n<=sizeLine:=Nat.le_trans h (by decide)
def gW (K:W.Frag):Sp:=λvs H Q _=>∃ (G:Hp) (a:V) (b:Bytes),vs=[a]/\l7 G H/\Bs K G a b/\b.all isDigit=true/\Q (.int ((natural b:Nat):Int)) H
theorem eu:i6 ["digits","value","byte"] ["digits"] (d8 W5):=⟨rfl,rfl,rfl,by decide +kernel,rfl,by decide +kernel,by decide +kernel⟩
theorem wZ {f:Addr}{fd:FuncData}(F:F1 K "whole_value" "whole_value" W5 f fd):o8 prog w K mg base (A7 prog w) 1 f fd ["digits"] (gW K):=by
 refine F.okX eu (λvs H Q E h=>?_) (λcdv A outer s H vs Q E hr h=>?_)
 ·obtain⟨G,a,b,rfl,_⟩:=h;rfl
 ·obtain⟨G,_,b,rfl,sm,⟨a,rfl,ha⟩,hd,k⟩:=h;refine a0 _ (c8 (i7 (i:=1) eu.nd rfl (Or.inl rfl) g8) (c8 (Q8 J3 rfl (K9 (pv 0)) (y9 (i:=2) eu.nd rfl (Or.inl rfl)) (d7 (i7 (i:=1) eu.nd rfl (Or.inl rfl) (i5 Y2 (i5 C7 (i5 Cj (pv 1) g8) (pv 2)) g8)))) (d7 (j1 (pv 1))))) ?_;refine a0 _ rfl (g9 a rfl (l9 _ (sm.seq ha)) (P7 (K:=K) (a:=a) (xs:=j0 b) (λi σ H'=>H'=H/\∃ r,σ=[some (.ref a),some (.int ((natural (b.take i):Nat):Int)),r]) ⟨rfl,l9 none rfl⟩ (λi σ H' _ ⟨e,_⟩=>by rw[e];exact sm.seq ha) ?_ ?_))
  ·rintro i x σ H' hx ⟨rfl,r,rfl⟩;obtain⟨hi,rfl⟩:=uH hx;refine a0 _ rfl (i3 _ _ rfl rfl (.inr ⟨by decide,by decide⟩) (a0 _ rfl (h9 _ _ rfl rfl (i3 _ _ rfl rfl rfl (l9 (some (.int ((b[i].toNat:Nat):Int))) ?_)))));have q:=yl (sV hd hi);have e:((natural (b.take i):Nat):Int)*10+((b[i].toNat:Nat):Int)-48=((natural (b.take (i+1)):Nat):Int):=by
    rw[dC hi,lY];omega
   rw[<-e];rfl
  ·rintro σ H' ⟨rfl,r,rfl⟩;refine a0 _ rfl ?_;rw[j4,List.take_length];exact k
def fK (K:W.Frag):Sp:=λvs H Q _=>∃ (G:Hp) (a z:V) (x y:Bytes),vs=[a,z]/\l7 G H/\Bl G a x/\Bl G z y/\(x++y).all isDigit=true/\x.length+y.length<=1000/\∀ v G' H',j6 [] G H G' H'->Fr K G' v (((natural (x++y):Nat):Rat)/((10^y.length:Nat):Rat))->Q v H'
theorem aJ:i6 ["front","back","bottom","byte"] ["front","back"] (d8 Q5):=⟨rfl,rfl,rfl,by decide +kernel,rfl,by decide +kernel,by decide +kernel⟩
theorem ql {f:Addr}{fd:FuncData}(F:F1 K "pointed_value" "pointed_value" Q5 f fd)(Df:B8 prog w K mg base 2 "fraction" ["top","bottom"] (dD K))(Dw:B8 prog w K mg base 1 "whole_value" ["digits"] (gW K)):o8 prog w K mg base (A7 prog w) 3 f fd ["front","back"] (fK K):=by
 refine F.okX aJ (λvs H Q E h=>?_) (λcdv A outer s H vs Q E hr h=>?_)
 ·obtain⟨G,a,z,x,y,rfl,_⟩:=h;rfl
 ·obtain⟨G,_,_,x,y,rfl,sm,⟨a,rfl,ha⟩,⟨z,rfl,hz⟩,hd,hl,k⟩:=h;refine a0 _ (c8 (i7 (i:=2) aJ.nd rfl (Or.inl rfl) g8) (c8 (Q8 J3 rfl (K9 (pv 1)) (y9 (i:=3) aJ.nd rfl (Or.inl rfl)) (d7 (ck (i:=2) aJ.nd rfl (Or.inl rfl) g8 Ae)))
   (d7 (j1 (d9 Df hr d6 (c7 (d9 Dw (hr.mono (by decide)) d6 (c7 (i5 lV (pv 0) (pv 1)) d4)) (c7 (pv 2) d4))))))) ?_
  have hz':C9 K H z (j0 y):=.of (sm _ _ hz);refine a0 _ rfl (g9 z rfl (l9 _ hz') (P7 (K:=K) (a:=z) (xs:=j0 y) (λi σ H'=>H'=H/\∃ r,σ=[some (.ref a),some (.ref z),some (.int ((10^i:Nat):Int)),r]) ⟨rfl,l9 none rfl⟩ (λi σ H' _ ⟨e,_⟩=>by rw[e];exact hz') ?_ ?_))
  ·rintro i u σ H' hx ⟨rfl,r,rfl⟩;refine a0 _ rfl (J5 _ _ rfl rfl (.inr ⟨by decide,by decide⟩) rfl (l9 (some u) ?_));have e:((10^i:Nat):Int)*10=((10^(i+1):Nat):Int):=by rw[Nat.pow_succ];omega
   rw[<-e];rfl
  ·rintro σ H' ⟨rfl,r,rfl⟩;refine a0 _ rfl (a0 _ rfl (l8 a z _ _ rfl rfl (sm _ _ ha) (sm _ _ hz) ?_ (λp hp=>?_)))
   ·rw[j4,j4];exact yP (by omega)
   ·have e1:=(j6.refl (M:=[]) sm).lay hp (o:=.lst (j0 x++j0 y));refine z8 _ _ (x++y) rfl e1.sub (a0 p rfl ?_) hd (a0 _ rfl ?_)
    ·refine .of ?_;rw[c9];unfold j0;rw[List.map_append]
    ·refine m8 _ _ _ rfl ?_ e1.sub (λv G' H' e2 h2=>k v G' H' (e1.trans e2) ?_)
     ·rw[j4];have:0<10^y.length:=Nat.pow_pos (by decide);omega
     ·rw[j4]at h2;exact h2
def AH (K:W.Frag)(CN:Addr)(G H:Hp)(r:Option Rat)(Q:VK)(E:XK):Prop:=match r with
 |some q=>∀ v G' H',j6 [] G H G' H'->Fr K G' v q->Q v H'
 |none=>∀ H',E (.ref CN) none H'
theorem vA {b:Bytes}(h:b.takeWhile isDigit=[]):Ma.A3 b=none:=by
 unfold Ma.A3;dsimp only;rw[if_pos h]
theorem vz {b:Bytes}(h:¬ b.takeWhile isDigit=[])(h2:b.length<=R0 b):Ma.A3 b=some ((natural (b.takeWhile isDigit):Nat):Rat):=by
 unfold Ma.A3;dsimp only;rw[if_neg h,show b.drop (b.takeWhile isDigit).length=[] from List.drop_eq_nil_of_le h2]
theorem yF {b:Bytes}(h:¬ b.takeWhile isDigit=[])(h2:R0 b<b.length):Ma.A3 b=(if b.drop (R0 b+1)=[]\/(b.drop (R0 b+1)).all isDigit=false then none
   else if b[R0 b]=46 then some (((natural (b.takeWhile isDigit++b.drop (R0 b+1)):Nat):Rat)/((10^(b.drop (R0 b+1)).length:Nat):Rat))
   else if b[R0 b]=47/\0<natural (b.drop (R0 b+1))then some (((natural (b.takeWhile isDigit):Nat):Rat)/((natural (b.drop (R0 b+1)):Nat):Rat))
   else none):=by
 unfold Ma.A3;dsimp only;rw[if_neg h];have e:b.drop (b.takeWhile isDigit).length=b[R0 b]::b.drop (R0 b+1):=G0 h2;rw[e]
theorem sM (b:Bytes):(R0 b<b.length)↔b.all isDigit=false:=by
 have h:=Ma.fh (p:=isDigit) b;have hl:R0 b<=b.length:=(List.takeWhile_prefix _).length_le;constructor
 ·intro q;cases z:b.all isDigit with
  |false=>rfl
  |true =>
   have:=List.drop_eq_nil_iff.mp (h.mpr z);unfold R0 at q;omega
 ·intro q;rcases Nat.lt_or_ge (R0 b) b.length with z|z
  ·exact z
  ·have:=h.mp (List.drop_eq_nil_of_le z);rw[q]at this;cases this
theorem df {b:Bytes}:(B3 b=B3 [])↔b=[]:=⟨λh=>aj h,λh=>by rw[h]⟩
def AQ (K:W.Frag)(CN:Addr):Sp:=λvs H Q E=>∃ (G:Hp) (a:V) (b:Bytes),vs=[a]/\l7 G H/\Bs K G a b/\b.length<=512/\AH K CN G H (Ma.A3 b) Q E
theorem lG:i6 ["text","middle","front","back"] ["text"] (d8 O4):=⟨rfl,rfl,rfl,by decide +kernel,rfl,by decide +kernel,by decide +kernel⟩
theorem Cq {f:Addr}{fd:FuncData}(F:F1 K "unsigned_value" "unsigned_value" O4 f fd)(T:Td K mg CN)(De:B8 prog w K mg base 2 "digits_end" ["text","place"] (iG K))
  (Df:B8 prog w K mg base 2 "fraction" ["top","bottom"] (dD K)) (Dw:B8 prog w K mg base 1 "whole_value" ["digits"] (gW K)) (Dp:B8 prog w K mg base 3 "pointed_value" ["front","back"] (fK K)):o8 prog w K mg base (A7 prog w) 4 f fd ["text"] (AQ K CN):=by
 refine F.okX lG (λvs H Q E h=>?_) (λcdv A outer s H vs Q E hr h=>?_)
 ·obtain⟨G,a,b,rfl,_⟩:=h;rfl
 ·obtain⟨G,_,b,rfl,sm,⟨a,rfl,ha⟩,hlen,k⟩:=h;have hu:=hr.units;have hr1:=hr.mono (show 1<=3 by decide);have hr2:=hr.mono (show 2<=3 by decide);refine a0 _ (c8 (i7 (i:=1) lG.nd rfl (Or.inl rfl) (d9 De hr2 d6 (c7 (pv 0) (c7 g8 d4))))
   (c8 (i7 (i:=2) lG.nd rfl (Or.inl rfl) (K0 N1 (pv 0) V7 (J4 (pv 1))))
   (c8 (i7 (i:=3) lG.nd rfl (Or.inl rfl) (K0 N1 (pv 0) (J4 (i5 C7 (pv 1) g8)) V7))
   (c8 (y2 (m9 (jd hu) (pv 2) (C5 d4) (n9 _)) (d7 (K8 N0 rfl (by rfl) T.nt.m T.nt.c)) l6)
   (c8 (y2 (m9 K2 (pv 1) (A6 B0 (by rfl) T.len_ boot_len (c7 (pv 0) d4)) (n9 _)) (d7 (j1 (d9 Df hr2 d6 (c7 (d9 Dw hr1 d6 (c7 (pv 2) d4)) (c7 g8 d4))))) l6)
   (c8 (y2 (ki (m9 (jd hu) (pv 3) (C5 d4) (n9 _)) (iP (m9 jc (d9 De hr2 d6 (c7 (pv 3) (c7 g8 d4))) (A6 B0 (by rfl) T.len_ boot_len (c7 (pv 3) d4)) (n9 _)))).pt (d7 (K8 N0 rfl (by rfl) T.nt.m T.nt.c)) l6)
   (c8 (y2 (m9 K2 (m7 u9 (pv 0) (pv 1) (λ_ _=>rfl)) (fU T.point_) (n9 _)) (d7 (j1 (d9 Dp hr d6 (c7 (pv 2) (c7 (pv 3) d4))))) l6)
   (c8 (y2 (lR (m9 K2 (m7 u9 (pv 0) (pv 1) (λ_ _=>rfl)) (fU T.slash_) (n9 _)) (ib (m9 gw (d9 Dw hr1 d6 (c7 (pv 3) d4)) g8 (n9 _)))).pt
    (d7 (j1 (d9 Df hr2 d6 (c7 (d9 Dw hr1 d6 (c7 (pv 2) d4)) (c7 (d9 Dw hr1 d6 (c7 (pv 3) d4)) d4))))) l6)
   (d7 (K8 N0 rfl (by rfl) T.nt.m T.nt.c)))))))))) ?_
  have hm:R0 b<=b.length:=(List.takeWhile_prefix _).length_le;have hdrop0:b.drop 0=b:=List.drop_zero ..;refine a0 _ rfl (q0 G _ b 0 rfl sm (a0 a rfl ha) ?_);rw[hdrop0,Nat.zero_add];have ef:aq (j0 b) none (some ((R0 b:Nat):Int))=j0 (b.takeWhile isDigit):=by rw[qH b _ hm];unfold R0;rw[Ma.aB]
  have eb:aq (j0 b) (some (((R0 b:Nat):Int)+1)) none=j0 (b.drop (R0 b+1)):=by
   have:=jA b (R0 b+1);rw[<-this];rfl
  refine a0 _ rfl (a0 _ rfl (a0 _ rfl (h9 a _ rfl (sm.seq ha) (λp hp=>?_))));rw[ef];have E1:=(j6.refl (M:=[]) sm).lay hp (o:=.lst (j0 (b.takeWhile isDigit)));refine a0 _ rfl (a0 _ rfl (h9 _ _ rfl rfl (a0 _ rfl (h9 a (j0 b) rfl (E1.sub.seq (E1.grow.seq ha)) (λq hq=>?_)))));rw[eb];have E2:=E1.lay hq (o:=.lst (j0 (b.drop (R0 b+1))));generalize hG2:i8 (i8 G p (.lst (j0 (b.takeWhile isDigit)))) q (.lst (j0 (b.drop (R0 b+1))))=G2 at E2;generalize hH2:i8 (i8 H p (.lst (j0 (b.takeWhile isDigit)))) q (.lst (j0 (b.drop (R0 b+1))))=H2 at E2;have hpq:p≠q:=j3 (c9 (H:=H) (a:=p)) hq;have hF:G2 p=some (.lst (j0 (b.takeWhile isDigit))):=by rw[<-hG2,i0 hpq,c9]
  have hB:G2 q=some (.lst (j0 (b.drop (R0 b+1)))):=by rw[<-hG2,c9]
  have hT:C9 K G2 a (j0 b):=E2.grow.seq ha;clear hG2 hH2;refine g9 _ rfl (by show 0<=sizeLine;decide) (λl hl=>?_);have E3:=E2.lend hl (o:=.lst []);refine j5 p l (B3 (b.takeWhile isDigit)) (B3 []) rfl rfl (by rw[<-M6];exact .of (E3.sub _ _ hF)) (.of c9) (a0 _ rfl (B4 (λh1=>?_) (λh1=>?_)))
  ·rw[vA (df.mp h1)]at k;exact k _
  have h1':¬ b.takeWhile isDigit=[]:=λz=>h1 (df.mpr z);refine a0 _ rfl (a0 _ rfl (i3 a _ rfl (.inl (E3.sub.seq hT)) rfl (a0 _ rfl (N5 (λh2=>?_) (λh2=>?_)))))
  ·rw[j4]at h2;rw[vz h1' (by omega)]at k;refine a0 _ rfl (z8 G2 _ _ rfl E3.sub (a0 p rfl (.of hF)) (Ma.O1 b) (m8 G2 _ _ rfl (by decide) E3.sub (λv G' H' e h=>k v G' H' (E3.trans e) ?_)));have e1:((((natural (b.takeWhile isDigit):Nat):Int):Rat)/((1:Int):Rat))=((natural (b.takeWhile isDigit):Nat):Rat):=by
    rw[show(((1:Int)):Rat)=1 from rfl];have:(((natural (b.takeWhile isDigit):Nat):Int):Rat)=((natural (b.takeWhile isDigit):Nat):Rat):=rfl
    grind
   rw[<-e1];exact h
  have hlt:R0 b<b.length:=by rw[j4]at h2;omega
  rw[yF h1' hlt]at k;refine g9 _ rfl (by show 0<=sizeLine;decide) (λl2 hl2=>?_);have E4:=E3.lend hl2 (o:=.lst []);have hl2':C9 K (i8 (i8 H2 l (.lst [])) l2 (.lst [])) l2 []:=.of c9;generalize i8 (i8 H2 l (.lst [])) l2 (.lst [])=H4 at E4 hl2';refine j5 q l2 (B3 (b.drop (R0 b+1))) (B3 []) rfl rfl (by rw[<-M6];exact .of (E4.sub _ _ hB)) hl2' (a0 _ rfl (B4 (λh3=>?_) (λh3=>?_)))
  ·rw[if_pos (.inl (df.mp h3))]at k;exact eV (k _)
  have h3':¬ b.drop (R0 b+1)=[]:=λz=>h3 (df.mpr z);refine a0 _ rfl (q0 G2 _ (b.drop (R0 b+1)) 0 rfl E4.sub (a0 q rfl (.of hB)) (a0 _ rfl (h9 q _ rfl (.inl (.of (E4.sub _ _ hB))) (h9 _ _ rfl rfl (a0 _ rfl (B4 (λh4=>?_) (λh4=>?_)))))))
  ·rw[j4,List.drop_zero,Nat.zero_add]at h4;rw[if_pos (.inr ((sM _).mp (by omega)))]at k;exact k _
  have h4':(b.drop (R0 b+1)).all isDigit=true:=by
   rw[j4,List.drop_zero,Nat.zero_add]at h4;cases z:(b.drop (R0 b+1)).all isDigit with
   |true=>rfl
   |false=>exact absurd ((sM _).mpr z) (by omega)
  rw[if_neg (by rw[h4'];simp[h3'])]at k;refine a0 _ rfl (a0 _ rfl (l8 a _ _ _ rfl rfl (E4.sub.seq hT) (P0 hlt) rfl (a0 _ rfl (N5 (λh5=>?_) (λh5=>?_)))))
  ·have h5':b[R0 b]=46:=UInt8.toNat_inj.mp (by show _=46;omega);rw[if_pos h5']at k;refine a0 _ rfl (a0 _ rfl (M0 G2 _ _ (b.takeWhile isDigit) (b.drop (R0 b+1)) rfl E4.sub (a0 p rfl hF) (a0 q rfl hB) ?_ ?_ (λv G' H' e h=>k v G' H' (E4.trans e) h)))
   ·rw[List.all_append,h4',Ma.O1];rfl
   ·have:(b.takeWhile isDigit).length=R0 b:=rfl;rw[List.length_drop];omega
  have h5':¬ b[R0 b]=46:=λz=>h5 (by rw[z];rfl);rw[if_neg h5']at k;refine a0 _ rfl (a0 _ rfl (l8 a _ _ _ rfl rfl (E4.sub.seq hT) (P0 hlt) rfl (a0 _ rfl (N5 (λh6=>?_) (λh6=>?_)))))
  ·have h6':b[R0 b]=47:=UInt8.toNat_inj.mp (by show _=47;omega);refine a0 _ rfl (z8 G2 _ _ rfl E4.sub (a0 q rfl (.of hB)) h4' (h9 _ _ rfl rfl (a0 _ rfl (B4 (λh7=>?_) (λh7=>?_)))))
   ·rw[if_pos ⟨h6',by omega⟩]at k;refine a0 _ rfl (z8 G2 _ _ rfl E4.sub (a0 p rfl (.of hF)) (Ma.O1 b) (a0 _ rfl (z8 G2 _ _ rfl E4.sub (a0 q rfl (.of hB)) h4' (m8 G2 _ _ rfl (by omega) E4.sub (λv G' H' e h=>k v G' H' (E4.trans e) h)))))
   ·rw[if_neg (by rintro⟨_,z⟩;omega)]at k;exact k _
  ·have h6':¬ b[R0 b]=47:=λz=>h6 (by rw[z];rfl);rw[if_neg (λz=>h6' z.1)]at k;exact fW (k _)
theorem Ag {b:Bytes}(h:512<b.length):Ma.z6 b=none:=by unfold Ma.z6;rw[if_pos h]
theorem FM {b:Bytes}(h:¬ 512<b.length):Ma.z6 b=match Ma.aE b with
  |some q=>if Ln.Num.fits q=true then some q else none
  |none=>none:=by unfold Ma.z6;rw[if_neg h];try rfl
theorem vW (t:Bytes):Ma.aE (45::t)=(Ma.A3 t).map λq=>-q:=rfl
theorem vV {b:Bytes}(h:b.take 1≠[45]):Ma.aE b=Ma.A3 b:=by
 unfold Ma.aE;split
 ·rename_i t;exact absurd rfl h
 ·rfl
theorem ju (q:Rat):Ln.Num.fits q=true↔((q.num.natAbs:Nat):Int)<1000000000000000000/\((q.den:Nat):Int)<1000000000000000000:=by
 unfold Ln.Num.fits;rw[Bool.and_eq_true,decide_eq_true_eq,decide_eq_true_eq];have:(10:Nat)^18=1000000000000000000:=by decide
 rw[this];omega
def nz (K:W.Frag)(CN:Addr):Sp:=λvs H Q E=>∃ (G:Hp) (a:V) (b:Bytes),vs=[a]/\l7 G H/\Bs K G a b/\AH K CN G H (Ma.z6 b) Q E
theorem fQ:i6 ["text","value"] ["text"] (d8 X0):=⟨rfl,rfl,rfl,by decide +kernel,rfl,by decide +kernel,by decide +kernel⟩
theorem uc {f:Addr}{fd:FuncData}(F:F1 K "handed_over" "handed_over" X0 f fd)(T:Td K mg CN)(Dn:B8 prog w K mg base 1 "negative" ["x"] (sp1 K (λ_=>True) λp=>-p))(Du:B8 prog w K mg base 4 "unsigned_value" ["text"] (AQ K CN)):o8 prog w K mg base (A7 prog w) 5 f fd ["text"] (nz K CN):=by
 refine F.okX fQ (λvs H Q E h=>?_) (λcdv A outer s H vs Q E hr h=>?_)
 ·obtain⟨G,a,b,rfl,_⟩:=h;rfl
 ·obtain⟨G,_,b,rfl,sm,⟨a,rfl,ha⟩,k⟩:=h;have hu:=hr.units;have hr1:=hr.mono (show 1<=4 by decide);refine a0 _ (c8 (y2 (m9 gw (A6 B0 (by rfl) T.len_ boot_len (c7 (pv 0) d4)) (fU T.most_) (n9 _)) (d7 (K8 N0 rfl (by rfl) T.nt.m T.nt.c)) l6)
   (R5 (y2 (m9 (jd hu) (K0 N1 (pv 0) V7 (J4 g8)) (C5 (c7 (fU T.minus_) d4)) (n9 _))
    (d7 (i7 (i:=1) fQ.nd rfl (Or.inl rfl) (d9 Dn hr1 d6 (c7 (d9 Du hr d6 (c7 (K0 N1 (pv 0) (J4 g8) V7) d4)) d4))))
    (d7 (i7 (i:=1) fQ.nd rfl (Or.inl rfl) (d9 Du hr d6 (c7 (pv 0) d4)))))
   (c8 (y2 (ki (m9 Ba (A6 jF (by rfl) T.abs_ boot_abs (c7 (px 1 (pv 1)) d4)) (fU T.great_) (n9 _)) (iP (m9 Ba (px 1 (pv 1)) (fU T.great_) (n9 _)))).pt (d7 (K8 N0 rfl (by rfl) T.nt.m T.nt.c)) l6)
   (d7 (j1 (pv 1)))))) ?_
  refine a0 _ rfl (h9 a _ rfl (.inl (sm.seq ha)) (h9 _ _ rfl rfl (a0 _ rfl (B4 (λh1=>?_) (λh1=>?_)))))
  ·rw[j4]at h1;rw[Ag (by omega)]at k;exact k _
  have h1':¬ 512<b.length:=by rw[j4]at h1;omega
  rw[FM h1']at k;have z1:∀ v:V,L2.start ["text","value"] [V.ref a]=[some (V.ref a),none]:=λ_=>rfl;refine a0 (λσ' H'=>∃ v q G',σ'=[some (.ref a),some v]/\j6 [] G H G' H'/\Fr K G' v q/\AH K CN G H (if Ln.Num.fits q=true then some q else none) Q E) ?_ ?_
  ·-- if text[:1]==[MINUS]
   refine a0 _ rfl (a0 _ rfl (h9 a _ rfl (sm.seq ha) (λp hp=>?_)));have ec:aq (j0 b) none (some 1)=j0 (b.take 1):=by
    by_cases hz:1<=b.length
    ·exact qH b 1 hz
    ·have:b=[]:=by cases b with|nil=>rfl|cons=>simp at hz
     subst this;rfl
   rw[ec];have E1:=(j6.refl (M:=[]) sm).lay hp (o:=.lst (j0 (b.take 1)));refine⟨(by show 1<=sizeLine;decide),λl hl=>?_⟩;have E2:=E1.lay hl (o:=.lst [.int 45]);have hpl:p≠l:=j3 (c9 (H:=H) (a:=p)) hl;have hP:i8 (i8 G p (.lst (j0 (b.take 1)))) l (.lst [.int 45]) p=some (.lst (j0 (b.take 1))):=by rw[i0 hpl,c9]
   have hL:i8 (i8 G p (.lst (j0 (b.take 1)))) l (.lst [.int 45]) l=some (.lst [.int 45]):=c9;generalize i8 (i8 G p (.lst (j0 (b.take 1)))) l (.lst [.int 45])=G2 at E2 hP hL;generalize i8 (i8 H p (.lst (j0 (b.take 1)))) l (.lst [.int 45])=H2 at E2;refine j5 p l (B3 (b.take 1)) ([45]) rfl rfl (by rw[<-M6];exact .of (E2.sub _ _ hP)) (.of (E2.sub _ _ hL)) (a0 _ rfl (B4 (λh2=>?_) (λh2=>?_)))
   ·have h2':b.take 1=[45]:=aj (show B3 (b.take 1)=B3 [45] from h2);obtain⟨t,rfl⟩:∃ t,b=45::t:=by
     cases b with
     |nil=>simp at h2'
     |cons c t=>simp at h2';exact l9 t (by rw[h2'])
    rw[vW]at k;refine a0 _ rfl (a0 _ rfl (h9 a (j0 (45::t)) rfl (E2.sub.seq (E2.grow.seq ha)) (λr hr'=>?_)));rw[show aq (j0 (45::t)) (some 1) none=j0 t from jA (45::t) 1];have E3:=E2.lay hr' (o:=.lst (j0 t));refine z8 _ _ t rfl E3.sub (a0 r rfl (.of c9)) ?_ ?_
    ·simp at h1';omega
    ·cases hv:Ma.A3 t with
     |none=>rw[hv]at k;exact k
     |some q =>
      rw[hv]at k;intro v G3 H3 e3 f3;refine z8 G3 _ q rfl e3.sub f3 trivial (λv4 G4 H4 e4 f4=>(m8 v4 (-q) G4 rfl ((E3.trans e3).trans e4) f4 k))
   ·have h2':b.take 1≠[45]:=λz=>h2 (by rw[z];rfl);rw[vV h2']at k;refine a0 _ rfl (z8 G2 _ b rfl E2.sub (a0 a rfl (E2.grow.seq ha)) (by omega) ?_);cases hv:Ma.A3 b with
    |none=>rw[hv]at k;exact k
    |some q =>
     rw[hv]at k;intro v G3 H3 e3 f3;exact m8 v q G3 rfl (E2.trans e3) f3 k
  ·rintro σ' H' ⟨v,q,G',rfl,e1,⟨r,rfl,hr'⟩,k⟩;refine m8 r _ _ rfl (e1.sub.seqT hr') rfl (a0 _ rfl (h9 _ _ rfl rfl (a0 _ rfl (B4 (λh2=>?_) (λh2=>?_)))))
   ·have:¬ Ln.Num.fits q=true:=λz=>by
     have:=(ju q).mp z;rw[cQ]at h2;omega
    rw[if_neg this]at k;exact eV (k _)
   ·refine m8 r _ _ rfl (e1.sub.seqT hr') rfl (h9 _ _ rfl rfl (a0 _ rfl (B4 (λh3=>?_) (λh3=>?_))))
    ·have:¬ Ln.Num.fits q=true:=λz=>by
      have:=(ju q).mp z;omega
     rw[if_neg this]at k;exact k _
    ·have:Ln.Num.fits q=true:=(ju q).mpr (by rw[cQ]at h2;omega);rw[if_pos this]at k;exact a0 _ rfl (k _ _ _ e1 (a0 r rfl hr'))
open Ln.Text (isLetter Tok tokenIn WORDS)
structure Tk (K:W.Frag)(mg:Str->Option Value)(CN:Addr):Prop extends Td K mg CN where
 hash_:GI mg "HASH" 35
 line_:GI mg "LINE_END" 10
 mname_:GI mg "MOST_NAME_BYTES" 32
 mdig_:GI mg "MOST_DIGITS" 18
 ord_:mg "ord"=none
def iH:Sp:=λvs H Q _=>∃ c:UInt8,vs=[.int (c.toNat:Int)]/\Q (.bl (isLetter c)) H
theorem zT (c:UInt8):isLetter c=((decide ((65:Int)<=(c.toNat:Int))&&decide ((c.toNat:Int)<=90))||((decide ((97:Int)<=(c.toNat:Int))&&decide ((c.toNat:Int)<=122))||decide ((c.toNat:Int)=95))):=by
 unfold isLetter;simp only[UInt8.le_iff_toNat_le];have e1:decide (UInt8.toNat 65<=c.toNat)=decide ((65:Int)<=(c.toNat:Int)):=by
  rw[show UInt8.toNat 65=65 from rfl];exact decide_eq_decide.mpr (by omega)
 have e2:decide (c.toNat<=UInt8.toNat 90)=decide ((c.toNat:Int)<=90):=by
  rw[show UInt8.toNat 90=90 from rfl];exact decide_eq_decide.mpr (by omega)
 have e3:decide (UInt8.toNat 97<=c.toNat)=decide ((97:Int)<=(c.toNat:Int)):=by
  rw[show UInt8.toNat 97=97 from rfl];exact decide_eq_decide.mpr (by omega)
 have e4:decide (c.toNat<=UInt8.toNat 122)=decide ((c.toNat:Int)<=122):=by
  rw[show UInt8.toNat 122=122 from rfl];exact decide_eq_decide.mpr (by omega)
 have e5:(c==95)=decide ((c.toNat:Int)=95):=by
  by_cases h:c=95
  ·subst h;rfl
  ·have h2:¬ (c.toNat:Int)=95:=λz=>h (UInt8.toNat_inj.mp (by show _=95;omega));rw[decide_eq_false h2];simpa using h
 rw[e1,e2,e3,e4,e5,Bool.or_comm,Bool.or_assoc]
theorem tT:i6 ["byte"] ["byte"] (d8 X1):=⟨rfl,rfl,rfl,by decide +kernel,rfl,by decide +kernel,by decide +kernel⟩
theorem uh {f:Addr}{fd:FuncData}(F:F1 K "begins_name" "begins_name" X1 f fd):o8 prog w K mg base (A7 prog w) 1 f fd ["byte"] iH:=by
 refine F.okX tT (λvs H Q E h=>?_) (λcdv A outer s H vs Q E hr h=>?_)
 ·obtain⟨c,rfl,_⟩:=h;rfl
 ·obtain⟨c,rfl,k⟩:=h;refine a0 _ (d7 (j1 (rQ (iY kr kr g8 (pv 0) g8) (rQ (iY kr kr g8 (pv 0) g8) (lU (V8 K2 (pv 0) g8 (n9 _))))))) ?_;rw[zT]at k;refine a0 _ rfl (h9 _ _ rfl rfl (a0 _ rfl ?_));have rest:∀ (h0:(decide ((65:Int)<=(c.toNat:Int))&&decide ((c.toNat:Int)<=90))=false),EN (vR (tW λi j=>.bl (decide (i<=j))) (tW λi j=>.bl (decide (i<=j))) (tC (.int 97)) (J6 0) (tC (.int 122))) (vQ Hi (J6 0) (tC (.int 95))) [some (.int (c.toNat:Int))] H Q:=by
   intro h0;rw[h0,Bool.false_or]at k;refine a0 _ rfl (h9 _ _ rfl rfl (a0 _ rfl (B4 (λh1=>?_) (λh1=>?_))))
   ·refine h9 _ _ rfl rfl (a0 _ rfl (B4 (λh2=>?_) (λh2=>?_)))
    ·rw[decide_eq_true h1,decide_eq_true h2]at k;exact k
    ·rw[decide_eq_true h1,decide_eq_false h2]at k;refine g9 _ rfl rfl ?_;have e:decide (V.int ((c.toNat:Nat):Int)=V.int 95)=decide ((c.toNat:Int)=95):=decide_eq_decide.mpr ⟨λz=>V.int.inj z,λz=>by rw[z]⟩;rw[e];exact k
   ·rw[decide_eq_false h1]at k;refine a0 _ rfl (fW (g9 _ rfl rfl ?_));have e:decide (V.int ((c.toNat:Nat):Int)=V.int 95)=decide ((c.toNat:Int)=95):=decide_eq_decide.mpr ⟨λz=>V.int.inj z,λz=>by rw[z]⟩;rw[e];exact k
  refine B4 (λh1=>?_) (λh1=>?_)
  ·refine h9 _ _ rfl rfl (a0 _ rfl (B4 (λh2=>?_) (λh2=>?_)))
   ·rw[decide_eq_true h1,decide_eq_true h2]at k;exact k
   ·exact rest (by rw[decide_eq_false h2,Bool.and_false])
  ·exact a0 _ rfl (fW (rest (by rw[decide_eq_false h1];rfl)))
noncomputable def F3 (c:UInt8):Bool:=isLetter c||isDigit c
def pY:Sp:=λvs H Q _=>∃ c:UInt8,vs=[.int (c.toNat:Int)]/\Q (.bl (F3 c)) H
theorem zb:i6 ["byte"] ["byte"] (d8 T7):=⟨rfl,rfl,rfl,by decide +kernel,rfl,by decide +kernel,by decide +kernel⟩
theorem zI {f:Addr}{fd:FuncData}(F:F1 K "goes_on_name" "goes_on_name" T7 f fd)(Db:B8 prog w K mg base 1 "begins_name" ["byte"] iH)(Dd:B8 prog w K mg base 1 "is_digit" ["byte"] hU):o8 prog w K mg base (A7 prog w) 2 f fd ["byte"] pY:=by
 refine F.okX zb (λvs H Q E h=>?_) (λcdv A outer s H vs Q E hr h=>?_)
 ·obtain⟨c,rfl,_⟩:=h;rfl
 ·obtain⟨c,rfl,k⟩:=h;refine a0 _ (d7 (j1 (rQ (d9 Db hr d6 (c7 (pv 0) d4)) (lU (d9 Dd hr d6 (c7 (pv 0) d4)))))) ?_;refine a0 _ rfl (a0 c rfl (a0 _ rfl (N9 (λh=>?_) (λh=>?_))))
  ·unfold F3 at k;rw[h]at k;exact k
  ·unfold F3 at k;rw[h]at k;exact a0 _ rfl (a0 c rfl k)
def nB (K:W.Frag):Sp:=λvs H Q _=>∃ (G:Hp) (a:V) (b:Bytes) (p:Nat),vs=[a,.int (p:Int)]/\l7 G H/\Bs K G a b/\p<=b.length/\∀ G' H',j6 [] G H G' H'->Q (.int ((Ma.u0 b p:Nat):Int)) H'
theorem S1:i6 ["text","place","comment","byte"] ["text","place"] (d8 aX):=⟨rfl,rfl,rfl,by decide +kernel,rfl,by decide +kernel,by decide +kernel⟩
theorem tM (cm:Bool)(c:UInt8)(r:Bytes):Ma.F7 cm (c::r)=if(!(if c=10 then false else if c=35 then true else cm)&&!Ma.fX c)=true then 0 else 1+Ma.F7 (if c=10 then false else if c=35 then true else cm) r:=rfl
theorem xU (c:UInt8):Bj (.int (c.toNat:Int)) [.int 32,.int 9,.int 10,.int 13]=Ma.fX c:=by
 have e:∀ n:UInt8,((n.toNat:Int)==(c.toNat:Int))=(c==n):=λn=>by
  by_cases h:c=n
  ·subst h;simp
  ·have:¬ (n.toNat:Int)=(c.toNat:Int):=λz=>h (UInt8.toNat_inj.mp (by omega));rw[beq_eq_false_iff_ne.mpr this,beq_eq_false_iff_ne.mpr h]
 unfold Bj Ma.fX;show(((32:Int)==(c.toNat:Int))||(((9:Int)==(c.toNat:Int))||(((10:Int)==(c.toNat:Int))||(((13:Int)==(c.toNat:Int))||false))))=_;have e1:=e 32;have e2:=e 9;have e3:=e 10;have e4:=e 13;rw[show((32:UInt8).toNat:Int)=32 from rfl]at e1;rw[show((9:UInt8).toNat:Int)=9 from rfl]at e2;rw[show((10:UInt8).toNat:Int)=10 from rfl]at e3;rw[show((13:UInt8).toNat:Int)=13 from rfl]at e4;rw[e1,e2,e3,e4,Bool.or_false,Bool.or_assoc,Bool.or_assoc]
theorem ft {c:UInt8}{n:UInt8}{i:Int}(hn:(n.toNat:Int)=i):((c.toNat:Int)=i)↔c=n:=⟨λh=>UInt8.toNat_inj.mp (by omega),λh=>by rw[h];exact hn⟩
theorem uf {f:Addr}{fd:FuncData}(F:F1 K "blanks_end" "blanks_end" aX f fd)(T:Tk K mg CN):o8 prog w K mg base (A7 prog w) 1 f fd ["text","place"] (nB K):=by
 refine F.okX S1 (λvs H Q E h=>?_) (λcdv A outer s H vs Q E hr h=>?_)
 ·obtain⟨G,a,b,p,rfl,_⟩:=h;rfl
 ·obtain⟨G,_,b,p,rfl,sm,⟨a,rfl,ha⟩,hp,k⟩:=h;have hu:=hr.units;refine a0 _ (c8 (i7 (i:=2) S1.nd rfl (Or.inl rfl) km) (c8 (Z5 J3 (m9 jc (pv 1) (A6 B0 (by rfl) T.len_ boot_len (c7 (pv 0) d4)) (n9 _))
   (c8 (i7 (i:=3) S1.nd rfl (Or.inl rfl) (m7 u9 (pv 0) (pv 1) (λ_ _=>rfl)))
   (R5 (y2 (m9 K2 (pv 3) (fU T.hash_) (n9 _)) (d7 (i7 (i:=2) S1.nd rfl (Or.inl rfl) km)) l6)
   (R5 (y2 (m9 K2 (pv 3) (fU T.line_) (n9 _)) (d7 (i7 (i:=2) S1.nd rfl (Or.inl rfl) km)) l6)
   (c8 (y2 (lR (iQ (E8 (pv 2))) (ib (m9 eN (pv 3) (z9 (c7 g8 (c7 g8 (c7 g8 (c7 g8 d4))))) rfl))).pt (d7 wL) l6)
   (d7 (ck (i:=1) S1.nd rfl (Or.inl rfl) g8 qz)))))))
   (d7 (j1 (pv 1))))) ?_
  refine Y7 (λσ H'=>∃ (G':Hp) (i:Nat) (cm:Bool) (r:Option V),σ=[some (.ref a),some (.int (i:Int)),some (.bl cm),r]/\j6 [] G H G' H'/\i<=b.length/\i+Ma.F7 cm (b.drop i)=Ma.u0 b p) (λσ _=>b.length-ke 1 σ) (q0 G p false none rfl (j6.refl sm) hp rfl) ?_ (λσ H Q Q' hq h0=>by obtain⟨x,e,y,e2,p,ys,e3,h3,i,j,e4,e5,z,e6,h⟩:=h0;exact(a0 x e (a0 y e2 (h9 p ys e3 h3 (h9 i j e4 e5 (a0 z e6 (hq _ _ h)))))));rintro σ H' ⟨G',i,cm,r,rfl,e0,hi,e⟩;refine a0 _ rfl (a0 _ rfl (h9 a _ rfl (.inl (e0.sub.seq (e0.grow.seq ha))) (h9 _ _ rfl rfl (a0 _ rfl (B4 (λh1=>?_) (λh1=>?_))))))
  ·have hlt:i<b.length:=by rw[j4]at h1;omega
   rw[G0 hlt,tM]at e;refine a0 _ rfl (a0 _ rfl (j5 a _ _ _ rfl rfl (e0.sub.seq (e0.grow.seq ha)) (P0 hlt) ?_));generalize b[i]=c at e;refine a0 (λσ' H2=>H2=H'/\σ'=[some (.ref a),some (.int (i:Int)),some (.bl (if c=35 then true else cm)),some (.int (c.toNat:Int))]) ?_ ?_
   ·refine g9 _ rfl rfl (a0 _ rfl (N5 (λh2=>?_) (λh2=>?_)))
    ·rw[if_pos ((ft (n:=35) rfl).mp h2)];exact⟨rfl,rfl⟩
    ·rw[if_neg (λz=>h2 ((ft (n:=35) rfl).mpr z))];exact⟨rfl,rfl⟩
   rintro σ' H2 ⟨rfl,rfl⟩;refine a0 (λσ' H3=>H3=H2/\σ'=[some (.ref a),some (.int (i:Int)),some (.bl (if c=10 then false else if c=35 then true else cm)),some (.int (c.toNat:Int))]) ?_ ?_
   ·refine g9 _ rfl rfl (a0 _ rfl (N5 (λh2=>?_) (λh2=>?_)))
    ·rw[if_pos ((ft (n:=10) rfl).mp h2)];exact⟨rfl,rfl⟩
    ·rw[if_neg (λz=>h2 ((ft (n:=10) rfl).mpr z))];exact⟨rfl,rfl⟩
   rintro σ' H3 ⟨rfl,rfl⟩;generalize(if c=10 then false else if c=35 then true else cm)=d at e;refine a0 _ rfl (a0 _ rfl ?_);have go:∀ (G4 H4:Hp),j6 [] G H G4 H4->(!d&&!Ma.fX c)=false->EU 1 (tC (.int 1)) (Hj λi j=>i+j) { nx:=λσ' H'=>(∃ (G':Hp) (i:Nat) (cm:Bool) (r:Option V),σ'=[some (.ref a),some (.int (i:Int)),some (.bl cm),r]/\j6 [] G H G' H'/\i<=b.length/\i+Ma.F7 cm (b.drop i)=Ma.u0 b p)/\b.length-ke 1 σ'<b.length-i,rt:=Q } [some (.ref a),some (.int (i:Int)),some (.bl d),some (.int (c.toNat:Int))] H4:=by
    intro G4 H4 e4 hz;refine a0 _ rfl (i3 _ _ rfl rfl (q0 G4 (i+1) d _ rfl e4 hlt ?_) ?_)
    ·rw[hz,if_neg (by decide)]at e;rw[<-e,Nat.add_assoc]
    ·show b.length-((i:Int)+1).toNat<b.length-i;omega
   cases d with
   |true=>exact fW (go G' _ e0 rfl)
   |false =>
    refine eV (g9 _ rfl (by show 4<=sizeLine;decide) (λt ht=>?_));have e1:=e0.lay ht (o:=.tup [.int 32,.int 9,.int 10,.int 13]);refine J5 t _ rfl (.inr (.of c9)) rfl rfl (a0 _ rfl ?_);show if(!Bj (.int (c.toNat:Int)) [.int 32,.int 9,.int 10,.int 13])=true then _ else _
    rw[xU];cases hb:Ma.fX c with
    |true=>exact fW (go _ _ e1 (by rw[hb];rfl))
    |false =>
     rw[hb,if_pos (show(!false&&!false)=true from rfl)]at e;refine eV (a0 _ rfl ?_);have:=k _ _ e1;rw[<-e]at this;exact this
  ·have hge:b.length<=i:=by rw[j4]at h1;omega
   rw[List.drop_eq_nil_of_le hge]at e;refine a0 _ rfl ?_;have:=k _ _ e0;rw[<-e]at this;exact this
open Ln.Text (isMark)
def GT (K:W.Frag)(mg:Str->Option Value)(x:Str)(xs:List V):Prop:=∃ a,mg x=some (.ref a)/\∀ H,W2 K H a xs
def GS (mg:Str->Option Value)(x:Str)(y:Str):Prop:=∃ t,mg x=some (.str y t)
theorem Hx {X:Cx}{x y:Str}{pos:Pos}(h:GS X.mg x y)(hg:Gl X x:=by rfl)(hd:(x==("__debug__" : Str))=false:=by decide):PE X (.Name x pos) (tC (.str y)) :=
 let⟨t,e⟩:=h;C6 hg e (l9 t rfl) hd
noncomputable def WS:List String:=["after","clear","conic","curve","flat","glass","into","mirror","radius","start","stop","surface"]
theorem ik:WORDS=WS.map Ln.ascii:=rfl
noncomputable def ly (b:Bytes):Str:=⟨(Ma.W0 b).toArray⟩
theorem vt:∀ s∈WS,(Str.ofString s)=ly (Ln.ascii s):=by decide +kernel
theorem vo:∀ s∈WS,(Ln.ascii s).length<=32:=by decide +kernel
structure Tl (K:W.Frag)(mg:Str->Option Value)(CN:Addr):Prop extends Tk K mg CN where
 words_:GT K mg "WORDS" (WS.map λs=>V.str (Str.ofString s))
 marks_:GS mg "MARKS" ":,;/-"
theorem vX (b:Bytes):(ly b).cps.toList=Ma.W0 b:=by unfold ly;simp
theorem et (b:Bytes):fN (ly b)=b.map λ(c:UInt8)=>V.str ⟨#[c.toNat]⟩:=by
 unfold fN;rw[vX];unfold Ma.W0;rw[List.map_map];rfl
noncomputable def tu (b:Bytes):Str:=if b∈WORDS then ly b else "name"
def vZ (K:W.Frag):Sp:=λvs H Q _=>∃ (G:Hp) (a:V) (b:Bytes),vs=[a]/\l7 G H/\Bs K G a b/\∀ G' H',j6 [] G H G' H'->Q (.str (tu b)) H'
theorem lF:i6 ["piece","word","sign"] ["piece"] (d8 N2):=⟨rfl,rfl,rfl,by decide +kernel,rfl,by decide +kernel,by decide +kernel⟩
theorem Cp {f:Addr}{fd:FuncData}(F:F1 K "word_or_name" "word_or_name" N2 f fd)(T:Tl K mg CN):o8 prog w K mg base (A7 prog w) 1 f fd ["piece"] (vZ K):=by
 refine F.okX lF (λvs H Q E h=>?_) (λcdv A outer s H vs Q E hr h=>?_)
 ·obtain⟨G,a,b,rfl,_⟩:=h;rfl
 ·obtain⟨G,_,b,rfl,sm,⟨a,rfl,ha⟩,k⟩:=h;have hu:=hr.units;obtain⟨aW,hmW,hW⟩:=T.words_;refine a0 _ (c8 (Q8 J3 rfl (wM (C6 (v:=.ref aW) rfl hmW rfl)) (y9 (i:=1) lF.nd rfl (Or.inl rfl)) (d7 (y2 (m9 (jd hu) (pv 0)
   (AY (own:=[("sign",2)]) rfl lF.nd (qk (pv 1)) (N7 (show jG ["piece","word","sign"] (d8 N2) _ _=true by decide +kernel)) (λ_ _ _ _ _=>y9 (i:=2) lF.nd rfl (Or.inl rfl)) (λ_ _ _ _ _=>R4) (λ_ _ _ _ _=>A6 jE (by rfl) T.ord_ boot_ord (c7 (pv 2) d4))) (n9 _))
   (d7 (j1 (pv 1))) l6))) (d7 (j1 j9))) ?_
  refine g9 aW rfl (l9 _ (hW _)) (sE (K:=K) (a:=aW) (xs:=WS.map λs=>V.str (Str.ofString s)) (λi σ H'=>∃ (G':Hp) (r1 r2:Option V),σ=[some (.ref a),r1,r2]/\j6 [] G H G' H'/\b∉(WORDS.take i)) (bP G none none rfl (j6.refl sm) (by simp)) (λi σ H' _ _=>hW _) ?_ ?_)
  ·rintro i y σ H' hy ⟨G',r1,r2,rfl,e0,hn⟩;rw[List.getElem?_map]at hy;obtain⟨x,hx,rfl⟩:∃ x,WS[i]?=some x/\y=V.str (Str.ofString x):=by
    cases q:WS[i]? with
    |none=>rw[q]at hy;cases hy
    |some x=>rw[q]at hy;exact a0 x rfl ((Option.some.inj hy).symm)
   have hm:x∈WS:=List.mem_of_getElem? hx;have hc:=vt x hm;have hsmall:=vo x hm;rw[hc];generalize hz:Ln.ascii x=z at hsmall;refine a0 _ rfl (a0 _ rfl (a0 _ rfl (λD hD=>?_)));refine xD (x:=ly z) (λi Hc=>Hc=i8 H' D (.lst ((B3 (z.take i)).map V.int))) rfl ?_ ?_
   ·rintro j v Hc hv rfl;rw[et,List.getElem?_map]at hv;obtain⟨c,hcc,rfl⟩:∃ c,z[j]?=some c/\v=V.str ⟨#[c.toNat]⟩:=by
     cases q:z[j]? with
     |none=>rw[q]at hv;cases hv
     |some x=>rw[q]at hv;exact a0 x rfl ((Option.some.inj hv).symm)
    obtain⟨hj,hjc⟩:=List.getElem?_eq_some_iff.mp hcc;refine⟨rfl,a0 _ rfl (g9 _ rfl rfl (g9 _ c9 ?_ ?_))⟩
    ·rw[List.length_map];have:(B3 (z.take j)).length<=32:=by unfold B3;rw[List.length_map,List.length_take];omega
     exact Nat.lt_of_le_of_lt this (by decide)
    ·rw[A8,dC hj,hjc];unfold B3;rw[List.map_append,List.map_append];rfl
   ·rintro Hc rfl;have e1:z.take (fN (ly z)).length=z:=by rw[et,List.length_map];exact List.take_length
    rw[e1];have E1:=e0.lend hD (o:=.lst ((B3 z).map V.int));refine j5 a D (B3 b) (B3 z) rfl rfl (by have q:=E1.sub.seq (E1.grow.seq ha);rw[M6 b]at q;exact q) (.of c9) (a0 _ rfl (B4 (λh1=>?_) (λh1=>?_)))
    ·have hbz:b=z:=aj h1;refine a0 _ rfl ?_;have kk:=k _ _ E1;have:b∈WORDS:=by rw[hbz,<-hz,ik];exact List.mem_map.mpr (a0 x hm rfl)
     unfold tu at kk;rw[if_pos this,hbz]at kk;exact kk
    ·refine bP G' _ _ rfl E1 ?_;have ht:WORDS.take (i+1)=WORDS.take i++[z]:=by
      rw[List.take_add_one,ik,List.getElem?_map,hx];show _++[Ln.ascii x]=_;rw[hz]
     rw[ht];intro hmem;rcases List.mem_append.mp hmem with q|q
     ·exact hn q
     ·exact h1 (by rw[List.mem_singleton.mp q])
  ·rintro σ H' ⟨G',r1,r2,rfl,e0,hn⟩;have kk:=k _ _ e0;unfold tu at kk;have hl:WORDS.take (WS.map λs=>V.str (Str.ofString s)).length=WORDS:=by rw[List.length_map];exact List.take_of_length_le (by rw[ik,List.length_map];exact Nat.le_refl _)
   rw[hl]at hn;rw[if_neg hn]at kk;exact kk
open Ln.Text (numberIn NAME)
noncomputable def fA:Ln.Text.Tok->Str
 |.word w=>ly w
 |.name _=>"name"
 |.num _ _ false=>"whole"
 |.num _ _ true=>"pointed"
 |.mark c=>⟨#[c.toNat]⟩
 |.end_=>"end"
 |.broken=>"none"
def Hl (K:W.Frag)(G:Hp)(v:V)(k:Str)(s e:Nat):Prop:=∃ p,v=.ref p/\W2 K G p [.str k,.int (s:Int),.int (e:Int)]
noncomputable def jW (b:Bytes):Nat:=(b.takeWhile F3).length
theorem yG {b:List UInt8}{i:Nat}(h:i<b.length)(hd:F3 b[i]=true):i+1+jW (b.drop (i+1))=i+jW (b.drop i):=by
 rw[G0 h];unfold jW;rw[List.takeWhile_cons,hd,if_pos rfl,List.length_cons];rw[Nat.add_assoc,Nat.add_comm 1]
theorem vC {b:List UInt8}{i:Nat}(h:i<b.length)(hd:F3 b[i]=false):jW (b.drop i)=0:=by
 rw[G0 h];unfold jW;rw[List.takeWhile_cons,hd,if_neg (by decide)];rfl
theorem ir {c:Bytes}{x:UInt8}{r:Bytes}(hc:c=x::r)(h:isLetter x=true):tokenIn c=if 32<jW c then(.broken,0)else if WORDS.contains (c.takeWhile F3)=true then(.word (c.takeWhile F3),jW c)else(.name (c.takeWhile F3),jW c):=by
 subst hc;simp only[tokenIn,h,if_true];rfl
def gZ (K:W.Frag)(C:UInt8->Prop):Sp:=λvs H Q _=>∃ (G:Hp) (a:V) (b:Bytes) (s:Nat) (hs:s<b.length),vs=[a,.int (s:Int)]/\l7 G H/\Bs K G a b/\C b[s]/\∀ v G' H',j6 [] G H G' H'->Hl K G' v (fA (tokenIn (b.drop s)).1) s (s+(tokenIn (b.drop s)).2)->Q v H'
theorem lL:i6 ["text","start","end"] ["text","start"] (d8 aS):=⟨rfl,rfl,rfl,by decide +kernel,rfl,by decide +kernel,by decide +kernel⟩
theorem zH {f:Addr}{fd:FuncData}(F:F1 K "name_token" "name_token" aS f fd)(T:Tl K mg CN)(Dg:B8 prog w K mg base 2 "goes_on_name" ["byte"] pY)(Dw:B8 prog w K mg base 1 "word_or_name" ["piece"] (vZ K)):o8 prog w K mg base (A7 prog w) 3 f fd ["text","start"] (gZ K λc=>isLetter c=true):=by
 refine F.okX lL (λvs H Q E h=>?_) (λcdv A outer s H vs Q E hr h=>?_)
 ·obtain⟨G,a,b,p,_,rfl,_⟩:=h;rfl
 ·obtain⟨G,_,b,p,hp,rfl,sm,⟨a,rfl,ha⟩,hc,k⟩:=h;have hr1:=hr.mono (show 1<=2 by decide);refine a0 _ (c8 (i7 (i:=2) lL.nd rfl (Or.inl rfl) (pv 1)) (c8 (Z5 J3 (lR (m9 jc (pv 2) (A6 B0 (by rfl) T.len_ boot_len (c7 (pv 0) d4)) (n9 _)) (ib (E8 (d9 Dg hr d6 (c7 (m7 u9 (pv 0) (pv 2) (λ_ _=>rfl)) d4))))).pt
   (d7 (ck (i:=2) lL.nd rfl (Or.inl rfl) g8 qz)))
   (c8 (y2 (m9 gw (i5 Y2 (pv 2) (pv 1)) (fU T.mname_) (n9 _)) (d7 (j1 (z9 (c7 j9 (c7 (pv 1) (c7 (pv 1) d4)))))) l6)
   (d7 (j1 (z9 (c7 (d9 Dw hr1 d6 (c7 (K0 N1 (pv 0) (J4 (pv 1)) (J4 (pv 2))) d4)) (c7 (pv 1) (c7 (pv 2) d4))))))))) ?_
  refine a0 _ rfl ?_;rw[ir (G0 hp) hc]at k;have hle:p+jW (b.drop p)<=b.length:=by
   have:((b.drop p).takeWhile F3).length<=(b.drop p).length:=(List.takeWhile_prefix _).length_le;rw[List.length_drop]at this;unfold jW;omega
  have fin:ES (AL (vQ (tW λi j=>.bl (decide (i>j))) (vQ (tW λi j=>.int (i-j)) (J6 2) (J6 1)) (tC (.int 32)))) (tI (vO (J8 (tC (.str "none")) (J8 (J6 1) (J8 (J6 1) fH))))) AM
    { nx:=(tI (vO (J8 (rg (vZ K) [] E (J8 (Hb (Fl K) (J6 0) (vP (J6 1)) (vP (J6 2))) fH)) (J8 (J6 1) (J8 (J6 2) fH))))) { nx:=λ_ H'=>Q .non H',rt:=Q },rt:=Q } [some (.ref a),some (.int (p:Int)),some (.int ((p+jW (b.drop p):Nat):Int))] H:=by
   refine a0 _ rfl (a0 _ rfl (h9 _ _ rfl rfl (h9 _ _ rfl rfl (a0 _ rfl (B4 (λh1=>?_) (λh1=>?_))))))
   ·have h1':32<jW (b.drop p):=by omega
    rw[if_pos h1']at k;refine a0 _ rfl (g9 _ rfl (by show 3<=sizeLine;decide) (λl hl=>?_));exact k _ _ _ ((j6.refl sm).lay hl) (a0 l rfl (.of c9))
   ·have h1':¬ 32<jW (b.drop p):=by omega
    rw[if_neg h1']at k;refine a0 _ rfl (a0 _ rfl (a0 _ rfl (a0 _ rfl (a0 _ rfl (h9 a _ rfl (sm.seq ha) (λq hq=>?_))))));have ec:aq (j0 b) (some (p:Int)) (some ((p+jW (b.drop p):Nat):Int))=j0 ((b.drop p).takeWhile F3):=by
     rw[fY b p _ (Nat.le_of_lt hp) hle,Nat.add_sub_cancel_left];unfold jW;rw[Ma.aB]
    rw[ec];have E1:=(j6.refl (M:=[]) sm).lay hq (o:=.lst (j0 ((b.drop p).takeWhile F3)));refine m8 _ _ _ rfl E1.sub (a0 q rfl (.of c9)) (λG2 H2 E2=>?_);refine a0 _ rfl (g9 _ rfl (by show 3<=sizeLine;decide) (λl hl=>?_));have E3:=(E1.trans E2).lay hl (o:=.tup [.str (tu ((b.drop p).takeWhile F3)),.int (p:Int),.int ((p+jW (b.drop p):Nat):Int)]);have kk:=k (.ref l) _ _ E3;by_cases hw:(b.drop p).takeWhile F3∈WORDS
    ·rw[if_pos (List.contains_iff_mem.mpr hw)]at kk;refine kk (a0 l rfl (.of ?_));rw[c9];unfold tu;rw[if_pos hw];rfl
    ·rw[if_neg (λz=>hw (List.contains_iff_mem.mp z))]at kk;refine kk (a0 l rfl (.of ?_));rw[c9];unfold tu;rw[if_neg hw];rfl
  refine Y7 (λσ H'=>H'=H/\∃ i:Nat,σ=[some (.ref a),some (.int (p:Int)),some (.int (i:Int))]/\i+jW (b.drop i)=p+jW (b.drop p)) (λσ _=>b.length-ke 2 σ) ⟨rfl,a0 p rfl rfl⟩ ?_ ?_
  ·rintro σ H' ⟨rfl,i,rfl,e⟩;refine a0 _ rfl (a0 _ rfl (h9 a _ rfl (.inl (sm.seq ha)) (h9 _ _ rfl rfl (a0 _ rfl (B4 (λh1=>?_) (λh1=>?_))))))
   ·have hi:i<b.length:=by rw[j4]at h1;omega
    refine a0 _ rfl (a0 _ rfl (j5 a _ _ _ rfl rfl (sm.seq ha) (P0 hi) (a0 (b[i]) rfl (a0 _ rfl (N9 (λh2=>?_) (λh2=>?_))))))
    ·refine a0 _ rfl (i3 _ _ rfl rfl ⟨rfl,a0 (i+1) rfl ?_⟩ ?_)
     ·rw[yG hi h2];exact e
     ·show b.length-((i:Int)+1).toNat<b.length-((i:Int)).toNat;omega
    ·rw[vC hi h2]at e;have e':i=p+jW (b.drop p):=e;subst e';exact fin
   ·refine fW ?_;have hi:b.length<=i:=by rw[j4]at h1;omega
    rw[List.drop_eq_nil_of_le hi]at e;have e':i=p+jW (b.drop p):=e;subst e';exact fin
  ·rintro σ H Q Q' hq ⟨x,e,y,e2,p,ys,e3,h3,i,j,e4,e5,z,e6,h⟩;refine a0 x e (a0 y e2 (h9 p ys e3 h3 (h9 i j e4 e5 (a0 z e6 ?_))));cases z with
   |false=>rw[if_neg (by decide)]at h⊢;exact hq _ _ h
   |true =>
    rw[if_pos rfl]at h⊢;obtain⟨x1,f1,x2,f2,g1,g2,g3,g4,f3,f4,f5,f6,c,f7,u,f8,h⟩:=h;exact a0 x1 f1 (a0 x2 f2 (j5 g1 g2 g3 g4 f3 f4 f5 f6 (a0 c f7 (a0 u f8 (hq _ _ h)))))
noncomputable def qL (b:Bytes)(p:Nat):Bool:=(b.drop p).head?.any λc=>F3 c||c==46
def wt (K:W.Frag):Sp:=λvs H Q _=>∃ (G:Hp) (a:V) (b:Bytes) (p:Nat),vs=[a,.int (p:Int)]/\l7 G H/\Bs K G a b/\Q (.bl (qL b p)) H
theorem zc:i6 ["text","place"] ["text","place"] (d8 X2):=⟨rfl,rfl,rfl,by decide +kernel,rfl,by decide +kernel,by decide +kernel⟩
theorem AC {b:Bytes}{p:Nat}(h:p<b.length):qL b p=(F3 b[p]||b[p]==46):=by
 unfold qL;rw[G0 h];rfl
theorem yn {b:Bytes}{p:Nat}(h:b.length<=p):qL b p=false:=by
 unfold qL;rw[List.drop_eq_nil_of_le h];rfl
theorem zK {f:Addr}{fd:FuncData}(F:F1 K "bars_number" "bars_number" X2 f fd)(T:Tl K mg CN)(Dg:B8 prog w K mg base 2 "goes_on_name" ["byte"] pY):o8 prog w K mg base (A7 prog w) 3 f fd ["text","place"] (wt K):=by
 refine F.okX zc (λvs H Q E h=>?_) (λcdv A outer s H vs Q E hr h=>?_)
 ·obtain⟨G,a,b,p,rfl,_⟩:=h;rfl
 ·obtain⟨G,_,b,p,rfl,sm,⟨a,rfl,ha⟩,k⟩:=h;refine a0 _ (d7 (j1 (Cg (V8 jc (pv 1) (A6 B0 (by rfl) T.len_ boot_len (c7 (pv 0) d4)) (n9 _)) (lU (rQ (d9 Dg hr d6 (c7 (m7 u9 (pv 0) (pv 1) (λ_ _=>rfl)) d4)) (lU (V8 K2 (m7 u9 (pv 0) (pv 1) (λ_ _=>rfl)) (fU T.point_) (n9 _)))))))) ?_;refine a0 _ rfl (a0 _ rfl (h9 a _ rfl (.inl (sm.seq ha)) (h9 _ _ rfl rfl (a0 _ rfl (B4 (λh1=>?_) (λh1=>?_))))))
  ·have hp:p<b.length:=by rw[j4]at h1;omega
   rw[AC hp]at k;refine a0 _ rfl (a0 _ rfl (j5 a _ _ _ rfl rfl (sm.seq ha) (P0 hp) (a0 (b[p]) rfl (a0 _ rfl (N9 (λh2=>?_) (λh2=>?_))))))
   ·rw[h2]at k;exact k
   ·rw[h2,Bool.false_or]at k;refine a0 _ rfl (a0 _ rfl (l8 a _ _ _ rfl rfl (sm.seq ha) (P0 hp) rfl ?_));have e:decide (V.int ((b[p].toNat:Nat):Int)=V.int 46)=(b[p]==46):=by
     by_cases h:b[p]=46
     ·rw[h];rfl
     ·have:¬ V.int ((b[p].toNat:Nat):Int)=V.int 46:=λz=>h ((ft (n:=46) rfl).mp (V.int.inj z));rw[decide_eq_false this,beq_eq_false_iff_ne.mpr h]
    rw[e];exact k
  ·rw[yn (by rw[j4]at h1;omega)]at k;exact k
theorem V5:i6 ["text","start","middle","kind","end","count"] ["text","start"] (d8 T5):=⟨rfl,rfl,rfl,by decide +kernel,rfl,by decide +kernel,by decide +kernel⟩
theorem dz {c:Bytes}:∀ x,(c.drop (c.takeWhile isDigit).length).head?=some x->isDigit x=false:=by
 induction c with
 |nil=>intro x h;cases h
 |cons a c ih =>
  intro x h;cases hd:isDigit a with
  |true =>
   rw[List.takeWhile_cons,hd,if_pos rfl,List.length_cons,List.drop_succ_cons]at h;exact ih x h
  |false =>
   rw[List.takeWhile_cons,hd,if_neg (by decide)]at h;cases h;exact hd
theorem yt {o:Option UInt8}(h:∀ x,o=some x->isDigit x=false):(o.any λc=>F3 c||c==46)=o.any λ(c:UInt8)=>isLetter c||c==46:=by
 cases o with
 |none=>rfl
 |some x =>
  show(F3 x||x==46)=(isLetter x||x==46);unfold F3;rw[h x rfl,Bool.or_false]
theorem GL (b:Bytes)(m:Nat)(h:m<=b.length):aq (j0 b) (some (m:Int)) (some ((m:Int)+1))=j0 ((b.drop m).take 1):=by
 by_cases h1:m+1<=b.length
 ·have:=fY b m (m+1) h h1;rw[Nat.add_sub_cancel_left]at this;exact this
 ·rw[List.drop_eq_nil_of_le (by omega:b.length<=m)];unfold aq;rw[j4,HT.sIx_nat,Nat.min_eq_left h,List.drop_eq_nil_of_le (by rw[j4];omega)];simp[j0]
theorem qY {c:Bytes}{x:UInt8}{r:Bytes}(hc:c=x::r)(h0:isLetter x=false)(h:isDigit x=true):tokenIn c=numberIn c:=by
 subst hc;simp only[tokenIn,h0,h,if_true];rfl
theorem zG {f:Addr}{fd:FuncData}(F:F1 K "number_token" "number_token" T5 f fd)(T:Tl K mg CN)(De:B8 prog w K mg base 2 "digits_end" ["text","place"] (iG K))(Db:B8 prog w K mg base 3 "bars_number" ["text","place"] (wt K)):o8 prog w K mg base (A7 prog w) 4 f fd ["text","start"] (gZ K λc=>isLetter c=false/\isDigit c=true):=by
 refine F.okX V5 (λvs H Q E h=>?_) (λcdv A outer s H vs Q E hr h=>?_)
 ·obtain⟨G,a,b,p,_,rfl,_⟩:=h;rfl
 ·obtain⟨G,_,b,p,hp,rfl,sm,⟨a,rfl,ha⟩,⟨hc0,hc⟩,k⟩:=h;have hr2:=hr.mono (show 2<=3 by decide);have hu:=hr.units;refine a0 _ (c8 (i7 (i:=2) V5.nd rfl (Or.inl rfl) (d9 De hr2 d6 (c7 (pv 0) (c7 (pv 1) d4))))
   (c8 (i7 (i:=3) V5.nd rfl (Or.inl rfl) j9) (c8 (i7 (i:=4) V5.nd rfl (Or.inl rfl) (pv 2)) (c8 (i7 (i:=5) V5.nd rfl (Or.inl rfl) (i5 Y2 (pv 2) (pv 1)))
   (R5 (y2 (m9 (jd hu) (K0 N1 (pv 0) (J4 (pv 2)) (J4 (i5 C7 (pv 2) g8))) (C5 (c7 (fU T.point_) d4)) (n9 _))
    (c8 (i7 (i:=3) V5.nd rfl (Or.inl rfl) j9) (c8 (i7 (i:=4) V5.nd rfl (Or.inl rfl) (d9 De hr2 d6 (c7 (pv 0) (c7 (i5 C7 (pv 2) g8) d4)))) (d7 (i7 (i:=5) V5.nd rfl (Or.inl rfl) (i5 Y2 (i5 Y2 (pv 4) (pv 1)) g8))))) l6)
   (c8 (y2 (ki (m9 K2 (pv 4) (i5 C7 (pv 2) g8) (n9 _)) (ki (m9 gw (pv 5) (fU T.mdig_) (n9 _)) (iP (E8 (d9 Db hr d6 (c7 (pv 0) (c7 (pv 4) d4))))))).pt
    (d7 (j1 (z9 (c7 j9 (c7 (pv 1) (c7 (pv 1) d4)))))) l6)
   (d7 (j1 (z9 (c7 (pv 3) (c7 (pv 1) (c7 (pv 4) d4)))))))))))) ?_
  rw[qY (G0 hp) hc0 hc,Ma.K3]at k;have hA:R0 (b.drop p)=(Ma.nA (b.drop p)).length:=rfl;have hle:p+(Ma.nA (b.drop p)).length<=b.length:=by
   have:((b.drop p).takeWhile isDigit).length<=(b.drop p).length:=(List.takeWhile_prefix _).length_le;rw[List.length_drop]at this;have q:(Ma.nA (b.drop p)).length=((b.drop p).takeWhile isDigit).length:=rfl;omega
  have hR:b.drop (p+(Ma.nA (b.drop p)).length)=Ma.nR (b.drop p):=by
   show _=(b.drop p).drop _;rw[List.drop_drop]
  refine a0 _ rfl (a0 _ rfl (q0 G _ b p rfl sm (a0 a rfl ha) ?_));rw[hA];refine a0 _ rfl (a0 _ rfl (a0 _ rfl (h9 _ _ rfl rfl ?_)));refine a0 (λσ' H'=>∃ G',j6 [] G H G' H'/\σ'=[some (.ref a),some (.int (p:Int)),some (.int ((p+(Ma.nA (b.drop p)).length:Nat):Int)),some (.str (if Ma.nP (b.drop p)=true then "pointed" else "whole")),some (.int ((p+Ma.nN (b.drop p):Nat):Int)),some (.int (((Ma.nA (b.drop p)).length+(Ma.nZ (b.drop p)).length:Nat):Int))]) ?_ ?_
  ·refine a0 _ rfl (a0 _ rfl (a0 _ rfl (a0 _ rfl (h9 _ _ rfl rfl (a0 _ rfl (h9 a _ rfl (sm.seq ha) (λq hq=>?_)))))));have ec:aq (j0 b) (some ((p+(Ma.nA (b.drop p)).length:Nat):Int)) (some (((p+(Ma.nA (b.drop p)).length:Nat):Int)+1))=j0 ((Ma.nR (b.drop p)).take 1):=by
    rw[<-hR];exact GL b _ hle
   rw[ec];have E1:=(j6.refl (M:=[]) sm).lay hq (o:=.lst (j0 ((Ma.nR (b.drop p)).take 1)));refine⟨(by show 1<=sizeLine;decide),λl hl=>?_⟩;have E2:=E1.lay hl (o:=.lst [.int 46]);have hql:q≠l:=j3 (c9 (H:=H) (a:=q)) hl;refine j5 q l (B3 ((Ma.nR (b.drop p)).take 1)) ([46]) rfl rfl (by rw[<-M6];exact .of (by rw[i0 hql,c9])) (.of c9) (a0 _ rfl (B4 (λh1=>?_) (λh1=>?_)))
   ·have h1':(Ma.nR (b.drop p)).take 1=[46]:=aj (show B3 ((Ma.nR (b.drop p)).take 1)=B3 [46] from h1);obtain⟨r,hr'⟩:∃ r,Ma.nR (b.drop p)=46::r:=by
     cases z:Ma.nR (b.drop p)with
     |nil=>rw[z]at h1';cases h1'
     |cons x r=>rw[z]at h1';cases h1';exact l9 r rfl
    have hP:Ma.nP (b.drop p)=true:=by
     show((Ma.nR (b.drop p)).head?==some 46)=true;rw[hr'];rfl
    have hZ:Ma.nZ (b.drop p)=r.takeWhile isDigit:=by
     have:Ma.nZ (b.drop p)=if Ma.nP (b.drop p)=true then((Ma.nR (b.drop p)).drop 1).takeWhile isDigit else[]:=rfl
     rw[this,if_pos hP,hr'];rfl
    have hd1:b.drop (p+(Ma.nA (b.drop p)).length+1)=r:=by
     have:b.drop (p+(Ma.nA (b.drop p)).length+1)=(b.drop (p+(Ma.nA (b.drop p)).length)).drop 1:=by rw[List.drop_drop]
     rw[this,hR,hr'];rfl
    have hN:Ma.nN (b.drop p)=(Ma.nA (b.drop p)).length+(1+(Ma.nZ (b.drop p)).length):=by
     have:Ma.nN (b.drop p)=(Ma.nA (b.drop p)).length+(if Ma.nP (b.drop p)=true then 1+(Ma.nZ (b.drop p)).length else 0):=rfl;rw[this,if_pos hP]
    refine a0 _ rfl (a0 _ rfl (h9 _ _ rfl rfl (q0 _ _ b (p+(Ma.nA (b.drop p)).length+1) rfl E2.sub (a0 a rfl (E2.grow.seq ha)) ?_)));rw[hd1];have hE:p+(Ma.nA (b.drop p)).length+1+R0 r=p+Ma.nN (b.drop p):=by
     rw[hN,hZ];unfold R0;omega
    rw[hE];refine a0 _ rfl (a0 _ rfl (h9 _ _ rfl rfl (h9 _ _ rfl rfl (a0 _ E2 ?_))));rw[if_pos hP];have hC:((p+Ma.nN (b.drop p):Nat):Int)-(p:Int)-1=(((Ma.nA (b.drop p)).length+(Ma.nZ (b.drop p)).length:Nat):Int):=by rw[hN];omega
    rw[<-hC];rfl
   ·have hP:Ma.nP (b.drop p)=false:=by
     cases z:Ma.nP (b.drop p)with
     |false=>rfl
     |true =>
      exfalso;have q:(Ma.nR (b.drop p)).head?=some 46:=eq_of_beq z;apply h1;cases z2:Ma.nR (b.drop p)with
      |nil=>rw[z2]at q;cases q
      |cons x r=>rw[z2]at q;cases q;rfl
    have hZ:Ma.nZ (b.drop p)=[]:=by
     have:Ma.nZ (b.drop p)=if Ma.nP (b.drop p)=true then((Ma.nR (b.drop p)).drop 1).takeWhile isDigit else[]:=rfl
     rw[this,if_neg (by rw[hP];decide)]
    have hN:Ma.nN (b.drop p)=(Ma.nA (b.drop p)).length:=by
     have:Ma.nN (b.drop p)=(Ma.nA (b.drop p)).length+(if Ma.nP (b.drop p)=true then 1+(Ma.nZ (b.drop p)).length else 0):=rfl;rw[this,if_neg (by rw[hP];decide)];rfl
    refine a0 _ E2 ?_;rw[if_neg (by rw[hP];decide),hN,hZ];have hC:((p+(Ma.nA (b.drop p)).length:Nat):Int)-(p:Int)=(((Ma.nA (b.drop p)).length+([]:Bytes).length:Nat):Int):=by
     rw[List.length_nil];omega
    rw[<-hC];rfl
  ·rintro σ' H' ⟨G',e0,rfl⟩;have hNn:p+Ma.nN (b.drop p)<=b.length:=by
    have:=Ma.Bg (b.drop p);rw[List.length_drop]at this;omega
   have hbar:qL b (p+Ma.nN (b.drop p))=(((b.drop p).drop (Ma.nN (b.drop p))).head?.any λ(c:UInt8)=>isLetter c||c==46):=by
    unfold qL;rw[List.drop_drop];refine yt λx hx=>?_;rw[<-List.drop_drop]at hx;cases hP:Ma.nP (b.drop p)with
    |false =>
     have hN:Ma.nN (b.drop p)=((b.drop p).takeWhile isDigit).length:=by
      have:Ma.nN (b.drop p)=(Ma.nA (b.drop p)).length+(if Ma.nP (b.drop p)=true then 1+(Ma.nZ (b.drop p)).length else 0):=rfl;rw[this,if_neg (by rw[hP];decide)];rfl
     rw[hN]at hx;exact dz x hx
    |true =>
     have hZ:Ma.nZ (b.drop p)=((Ma.nR (b.drop p)).drop 1).takeWhile isDigit:=by
      have:Ma.nZ (b.drop p)=if Ma.nP (b.drop p)=true then((Ma.nR (b.drop p)).drop 1).takeWhile isDigit else[]:=rfl
      rw[this,if_pos hP]
     have hN:Ma.nN (b.drop p)=(Ma.nA (b.drop p)).length+(1+(Ma.nZ (b.drop p)).length):=by
      have:Ma.nN (b.drop p)=(Ma.nA (b.drop p)).length+(if Ma.nP (b.drop p)=true then 1+(Ma.nZ (b.drop p)).length else 0):=rfl;rw[this,if_pos hP]
     rw[hN,<-List.drop_drop,<-List.drop_drop,hZ]at hx;exact dz x hx
   have bad:∀ H2 G2,j6 [] G H G2 H2->¬ Ma.DN (b.drop p)->tI (vO (J8 (tC (.str "none")) (J8 (J6 1) (J8 (J6 1) fH)))) { nx:=(tI (vO (J8 (J6 3) (J8 (J6 1) (J8 (J6 4) fH))))) { nx:=λ_ H'=>Q .non H',rt:=Q },rt:=Q } [some (.ref a),some (.int (p:Int)),some (.int ((p+(Ma.nA (b.drop p)).length:Nat):Int)),some (.str (if Ma.nP (b.drop p)=true then "pointed" else "whole")),some (.int ((p+Ma.nN (b.drop p):Nat):Int)),some (.int (((Ma.nA (b.drop p)).length+(Ma.nZ (b.drop p)).length:Nat):Int))] H2:=by
    intro H2 G2 e2 hn;rw[if_neg hn]at k;refine a0 _ rfl (g9 _ rfl (by show 3<=sizeLine;decide) (λl hl=>?_));exact k _ _ _ (e2.lay hl) (a0 l rfl (.of c9))
   refine a0 _ rfl (a0 _ rfl (i3 _ _ rfl rfl rfl (a0 _ rfl (N5 (λh1=>?_) (λh1=>?_)))))
   ·refine eV (bad _ _ e0 λho=>?_);have:Ma.nN (b.drop p)=(Ma.nA (b.drop p)).length+(if Ma.nP (b.drop p)=true then 1+(Ma.nZ (b.drop p)).length else 0):=rfl;rcases ho.2.2 with z|z
    ·rw[if_neg (by rw[z];decide)]at this;omega
    ·cases hP:Ma.nP (b.drop p)with
     |false=>rw[if_neg (by rw[hP];decide)]at this;omega
     |true =>
      rw[if_pos hP]at this;exact z (List.length_eq_zero_iff.mp (by omega))
   ·refine a0 _ rfl (h9 _ _ rfl rfl (a0 _ rfl (B4 (λh2=>?_) (λh2=>?_))))
    ·refine eV (bad _ _ e0 λho=>?_);have:=ho.2.1;unfold Ln.Text.DIGITS at this;omega
    ·refine a0 _ rfl (a0 _ rfl (q0 G' _ b _ rfl e0.sub (a0 a rfl (e0.grow.seq ha)) (a0 _ rfl (N9 (λh3=>?_) (λh3=>?_)))))
     ·refine bad _ _ e0 λho=>?_;have:=ho.1;rw[hbar]at h3;rw[h3]at this;cases this
     ·have ho:Ma.DN (b.drop p):=by
       refine⟨?_,?_,?_⟩
       ·rw[hbar]at h3;rw[h3];rfl
       ·unfold Ln.Text.DIGITS;omega
       ·cases hP:Ma.nP (b.drop p)with
        |false=>exact .inl rfl
        |true =>
         refine .inr λz=>h1 ?_;have:Ma.nN (b.drop p)=(Ma.nA (b.drop p)).length+(if Ma.nP (b.drop p)=true then 1+(Ma.nZ (b.drop p)).length else 0):=rfl;rw[if_pos hP,z,List.length_nil]at this;rw[this];omega
      rw[if_pos ho]at k;refine a0 _ rfl (a0 _ rfl (g9 _ rfl (by show 3<=sizeLine;decide) (λl hl=>?_)));refine k _ _ _ (e0.lay hl) (a0 l rfl (.of ?_));rw[c9];cases Ma.nP (b.drop p)<;>rfl
noncomputable def U6:Bytes:=[58,44,59,47,45]
theorem ot:(Str.ofString ":,;/-")=ly U6:=by decide +kernel
theorem md (c:UInt8):isMark c=true↔c∈U6:=by
 have:Ln.ascii ":,;/-"=U6:=by decide +kernel
 unfold isMark;rw[this];exact List.contains_iff_mem
def fJ (K:W.Frag):Sp:=λvs H Q _=>∃ (G:Hp) (a:V) (b:Bytes) (p:Nat),vs=[a,.int (p:Int)]/\l7 G H/\Bs K G a b/\p<=b.length/\∀ v G' H',j6 [] G H G' H'->Hl K G' v (fA (Ma.i9 b p).1) (Ma.u0 b p) (Ma.u0 b p+(Ma.i9 b p).2)->Q v H'
theorem lH:i6 ["text","place","start","mark"] ["text","place"] (d8 aK):=⟨rfl,rfl,rfl,by decide +kernel,rfl,by decide +kernel,by decide +kernel⟩
theorem lq {b:Bytes}{p:Nat}(h:p<=b.length):Ma.u0 b p<=b.length:=by
 unfold Ma.u0;have:=Ma.rz false (b.drop p);rw[List.length_drop]at this;omega
theorem jY {c:Bytes}{x:UInt8}{r:Bytes}(hc:c=x::r)(h0:isLetter x=false)(h:isDigit x=false):tokenIn c=if isMark x=true then(.mark x,1)else(.broken,0):=by
 subst hc;simp only[tokenIn,h0,h];rfl
theorem zr {f:Addr}{fd:FuncData}(F:F1 K "token_from" "token_from" aK f fd)(T:Tl K mg CN)(Db:B8 prog w K mg base 1 "blanks_end" ["text","place"] (nB K))(Dl:B8 prog w K mg base 1 "begins_name" ["byte"] iH)(Dd:B8 prog w K mg base 1 "is_digit" ["byte"] hU)
  (Dn:B8 prog w K mg base 3 "name_token" ["text","start"] (gZ K λc=>isLetter c=true)) (Du:B8 prog w K mg base 4 "number_token" ["text","start"] (gZ K λc=>isLetter c=false/\isDigit c=true)):o8 prog w K mg base (A7 prog w) 5 f fd ["text","place"] (fJ K):=by
 refine F.okX lH (λvs H Q E h=>?_) (λcdv A outer s H vs Q E hr h=>?_)
 ·obtain⟨G,a,b,p,rfl,_⟩:=h;rfl
 ·obtain⟨G,_,b,p,rfl,sm,⟨a,rfl,ha⟩,hp,k⟩:=h;have hr1:=hr.mono (show 1<=4 by decide);have hr3:=hr.mono (show 3<=4 by decide);refine a0 _ (c8 (i7 (i:=2) lH.nd rfl (Or.inl rfl) (d9 Db hr1 d6 (c7 (pv 0) (c7 (pv 1) d4))))
   (c8 (y2 (m9 K2 (pv 2) (A6 B0 (by rfl) T.len_ boot_len (c7 (pv 0) d4)) (n9 _)) (d7 (j1 (z9 (c7 j9 (c7 (pv 2) (c7 (pv 2) d4)))))) l6)
   (c8 (y2 (E8 (d9 Dl hr1 d6 (c7 (m7 u9 (pv 0) (pv 2) (λ_ _=>rfl)) d4))) (d7 (j1 (d9 Dn hr3 d6 (c7 (pv 0) (c7 (pv 2) d4))))) l6)
   (c8 (y2 (E8 (d9 Dd hr1 d6 (c7 (m7 u9 (pv 0) (pv 2) (λ_ _=>rfl)) d4))) (d7 (j1 (d9 Du hr d6 (c7 (pv 0) (c7 (pv 2) d4))))) l6)
   (c8 (Q8 J3 rfl (qk (Hx T.marks_)) (y9 (i:=3) lH.nd rfl (Or.inl rfl)) (d7 (y2 (m9 K2 (m7 u9 (pv 0) (pv 2) (λ_ _=>rfl)) (A6 jE (by rfl) T.ord_ boot_ord (c7 (pv 3) d4)) (n9 _))
    (d7 (j1 (z9 (c7 (pv 3) (c7 (pv 2) (c7 (i5 C7 (pv 2) g8) d4)))))) l6)))
   (d7 (j1 (z9 (c7 j9 (c7 (pv 2) (c7 (pv 2) d4))))))))))) ?_
  have hS:=lq hp;have eX:Ma.i9 b p=tokenIn (b.drop (Ma.u0 b p)):=rfl;rw[eX]at k;refine a0 _ rfl (a0 _ rfl (j5 G _ b p rfl sm (a0 a rfl ha) hp (λG1 H1 e1=>?_)));generalize Ma.u0 b p=S at k hS;have hT:C9 K H1 a (j0 b):=e1.sub.seq (e1.grow.seq ha);refine a0 _ rfl (a0 _ rfl (i3 a _ rfl (.inl hT) rfl (a0 _ rfl (N5 (λh1=>?_) (λh1=>?_)))))
  ·rw[j4]at h1;rw[List.drop_eq_nil_of_le (by omega)]at k;refine a0 _ rfl (g9 _ rfl (by show 3<=sizeLine;decide) (λl hl=>?_));exact k _ _ _ (e1.lay hl) (a0 l rfl (.of c9))
  have hlt:S<b.length:=by rw[j4]at h1;omega
  refine a0 _ rfl (a0 _ rfl (j5 a _ _ _ rfl rfl hT (P0 hlt) (a0 (b[S]) rfl (a0 _ rfl (N9 (λh2=>?_) (λh2=>?_))))))
  ·exact a0 _ rfl (a0 _ rfl (I0 G1 _ b ⟨S,l9 hlt ⟨rfl,e1.sub,(a0 a rfl (e1.grow.seq ha)),h2,λv G2 H2 e2 t=>k v G2 H2 (e1.trans e2) t⟩⟩))
  refine a0 _ rfl (a0 _ rfl (j5 a _ _ _ rfl rfl hT (P0 hlt) (a0 (b[S]) rfl (a0 _ rfl (N9 (λh3=>?_) (λh3=>?_))))))
  ·exact a0 _ rfl (a0 _ rfl (I0 G1 _ b ⟨S,l9 hlt ⟨rfl,e1.sub,(a0 a rfl (e1.grow.seq ha)),⟨h2,h3⟩,λv G2 H2 e2 t=>k v G2 H2 (e1.trans e2) t⟩⟩))
  rw[jY (G0 hlt) h2 h3]at k;refine a0 _ rfl (Al (x:=Str.ofString ":,;/-") (λi σ H'=>∃ r,σ=[some (.ref a),some (.int (p:Int)),some (.int (S:Int)),r]/\H'=H1/\b[S]∉U6.take i) (g9 none rfl rfl (by simp)) ?_ ?_)
  ·rintro i y σ H' hy ⟨r,rfl,rfl,hn⟩;rw[ot,et,List.getElem?_map]at hy;obtain⟨c,hc,rfl⟩:∃ c,U6[i]?=some c/\y=V.str ⟨#[c.toNat]⟩:=by
    cases q:U6[i]? with
    |none=>rw[q]at hy;cases hy
    |some x=>rw[q]at hy;exact a0 x rfl ((Option.some.inj hy).symm)
   obtain⟨hi,hic⟩:=List.getElem?_eq_some_iff.mp hc;refine a0 _ rfl (a0 _ rfl (j5 a _ _ _ rfl rfl hT (P0 hlt) (a0 _ rfl (M9 _ rfl rfl rfl (a0 _ rfl (N5 (λh4=>?_) (λh4=>?_)))))))
   ·have hbc:b[S]=c:=UInt8.toNat_inj.mp (by
     have:((b[S].toNat:Nat):Int)=((c.toNat:Nat):Int):=h4;omega)
    have hm:isMark b[S]=true:=(md _).mpr (by rw[hbc];exact List.mem_of_getElem? hc);rw[if_pos hm]at k;refine a0 _ rfl (a0 _ rfl (a0 _ rfl (i3 _ _ rfl rfl (by show 3<=sizeLine;decide) (λl hl=>?_))));refine k _ _ _ (e1.lay hl) (a0 l rfl (.of ?_));rw[c9,hbc];rfl
   ·refine g9 _ rfl rfl ?_;rw[dC hi,hic];intro hmem;rcases List.mem_append.mp hmem with q|q
    ·exact hn q
    ·exact h4 (by rw[List.mem_singleton.mp q];rfl)
  ·rintro σ H' ⟨r,rfl,rfl,hn⟩;have hl5:U6.take (fN (Str.ofString ":,;/-")).length=U6:=by rw[ot,et,List.length_map];exact List.take_length
   rw[hl5]at hn;rw[if_neg (λz=>hn ((md _).mp z))]at k;refine a0 _ rfl (g9 _ rfl (by show 3<=sizeLine;decide) (λl hl=>?_));exact k _ _ _ (e1.lay hl) (a0 l rfl (.of c9))
open Ln.Text (P Lex)
open Ma (y4 pC u0 i9 Lx K1)
noncomputable def P1:Ma.K->Str
 |.w s=>Str.ofString s
 |.m c=>⟨#[c.toNat]⟩
 |.name=>"name"
 |.whole=>"whole"
 |.pointed=>"pointed"
 |.fin=>"end"
 |.none=>"none"
noncomputable def dk:List Ma.K:=WS.map Ma.K.w++U6.map Ma.K.m++[.name,.whole,.pointed,.fin,.none]
theorem zY:∀ w∈WORDS,∀ k∈dk,decide (fA (.word w)=P1 k)=y4 k (.word w):=by decide +kernel
theorem zZ:∀ c∈U6,∀ k∈dk,decide (fA (.mark c)=P1 k)=y4 k (.mark c):=by decide +kernel
theorem DZ:∀ k∈dk,decide (fA .end_=P1 k)=y4 k .end_:=by decide +kernel
theorem uC:∀ k∈dk,decide (fA .broken=P1 k)=y4 k .broken:=by decide +kernel
theorem xK:∀ k∈dk,decide (fA (.name [])=P1 k)=y4 k (.name []):=by decide +kernel
theorem uB:∀ k∈dk,decide (fA (.num 0 0 false)=P1 k)=y4 k (.num 0 0 false):=by decide +kernel
theorem oP:∀ k∈dk,decide (fA (.num 0 0 true)=P1 k)=y4 k (.num 0 0 true):=by decide +kernel
theorem xR (k:Ma.K)(b:Bytes):y4 k (.name b)=y4 k (.name []):=by
 cases k with
 |name=>rfl
 |w s=>rfl
 |m c=>rfl
 |_=>rfl
theorem Ac (k:Ma.K)(n z:Nat)(p:Bool):y4 k (.num n z p)=y4 k (.num 0 0 p):=by
 cases p<;>cases k<;>rfl
theorem xQ {t:Ln.Text.Tok}(ht:pC t){k:Ma.K}(hk:k∈dk):decide (fA t=P1 k)=y4 k t:=by
 cases t with
 |word w=>exact zY w ht k hk
 |mark c=>exact zZ c ((md c).mp ht) k hk
 |name b=>rw[xR];exact xK k hk
 |num n z p =>
  rw[Ac];cases p with
  |true=>exact oP k hk
  |false=>exact uB k hk
 |end_=>exact DZ k hk
 |broken=>exact uC k hk
theorem qZ (b:Bytes)(p:Nat):pC (i9 b p).1:=Ma.Bz _
noncomputable def ff (p k:Int):List (Str×V):=C3 "kind" (.int k) (C3 "place" (.int p) [])
def EC (H:Hp)(d:Addr)(place kind:Nat):Prop:=H d=some (tj d (ff (place:Int) (kind:Int)))
structure dm (P:Program)(w:World)(K:W.Frag)(mg:Str->Option Value)(base:Heap)(k:Nat)(C:Addr)(m:Str)(ps:List Str)(sp:Sp):Prop where
 ex:∃ f fd,o8 P w K mg base (A7 P w) k f fd ps sp/\uS K C m f/\V1 K fd ps []
section
variable {X:Cx}{k:Nat}{C:Addr}{m:Str}{ps:List Str}{sp:Sp}{E:XK}{apos pos:Pos}{o e:Expr}{es:List Expr}{ta:TE}{t:TA}
theorem cP {pl:Sem Bool}(D:dm X.prog X.w X.K X.mg X.base k C m ps sp)(c:kZ X.K C)(hr:F9 k X.A)(hx:F6 (A7 X.prog X.w) X E)(he:PE X o ta)(ha:PA X (e::es) t)
  (hst:starEach (e::es) X.env=(false,eval e X.env)::starEach es X.env:=by rfl) (hpl:(backTo pos (starEach es X.env)).any (·.1)=false:=by rfl)
  (ht:eval (.Call (.Attribute o m apos) (e::es) [] pos) X.env=(do
   let ov ← eval o X.env
   standAt apos.atName
   let(f,first) ← holding [ov] (getMethod ov m pl)
   callWith pos f first (backTo pos (starEach (e::es) X.env)) (backToKw pos (keywordEach [] X.env))):=by rfl) :
  PE X (.Call (.Attribute o m apos) (e::es) [] pos) (rb C m sp [] E ta t):=by
 obtain⟨f,fd,F,hm,hb⟩:=D.ex;exact zh he c hm F hr hb .nil hx ha hst hpl ht
theorem iW {pl:Sem Bool}(D:dm X.prog X.w X.K X.mg X.base k C m ps sp)(c:kZ X.K C)(hr:F9 k X.A)(hx:F6 (A7 X.prog X.w) X E)(he:PE X o ta)
  (ht:eval (.Call (.Attribute o m apos) [] [] pos) X.env=(do
   let ov ← eval o X.env
   standAt apos.atName
   let(f,first) ← holding [ov] (getMethod ov m pl)
   callWith pos f first (backTo pos (starEach [] X.env)) (backToKw pos (keywordEach [] X.env))):=by rfl) :
  PE X (.Call (.Attribute o m apos) [] [] pos) (rb C m sp [] E ta fH):=by
 obtain⟨f,fd,F,hm,hb⟩:=D.ex;exact wQ he c hm F hr hb .nil hx ht
end
noncomputable def rf (t tk:Addr):List (Str×V):=C3 "token" (.ref tk) (C3 "text" (.ref t) [])
theorem rJ (t tk:Addr):(rf t tk).lookup ("text" : Str)=some (.ref t):=rfl
theorem U1 (t tk:Addr):(rf t tk).lookup ("token" : Str)=some (.ref tk):=rfl
theorem Ca (t tk u:Addr):C3 "token" (.ref u) (rf t tk)=rf t u:=rfl
noncomputable def eO:List Str:=["sees","piece","refuse","expect","step","take"]
theorem kh (t tk:Addr):∀ m∈eO,(rf t tk).lookup m=none:=by
 have key:∀ m∈eO,(m==("text" : Str))=false/\(m==("token" : Str))=false:=by decide +kernel
 intro m hm;obtain⟨h1,h2⟩:=key m hm;show List.lookup m [(("text" : Str),V.ref t),(("token" : Str),V.ref tk)]=none;rw[List.lookup_cons,h1,List.lookup_cons,h2];rfl
structure D1 (K:W.Frag)(CR:Addr)(G H:Hp)(r:Addr)(b:Bytes)(p:Nat):Prop where
 le:p<=b.length
 ex:∃ dx t tk,M7 G H r (.ins CR dx (rf t tk))/\C9 K G t (j0 b)/\W2 K G tk [.str (fA (i9 b p).1),.int ((u0 b p:Nat):Int),.int ((u0 b p+(i9 b p).2:Nat):Int)]
theorem D1.ext {K:W.Frag}{CR:Addr}{M:List Addr}{G H G1 H1:Hp}{r:Addr}{b:Bytes}{p:Nat}(h:D1 K CR G H r b p)(e:j6 M G H G1 H1)(hr:r∉M):D1 K CR G1 H1 r b p:=by
 obtain⟨le,dx,t,tk,h1,h2,h3⟩:=h;exact⟨le,bP dx t tk (h1.ext e hr) (e.grow.seq h2) (e.grow.seqT h3)⟩
structure Tr (K:W.Frag)(mg:Str->Option Value)(CN CF CR:Addr):Prop extends Tl K mg CN where
 cl:kZ K CR
 nText:t8 K CR "text"
 nToken:t8 K CR "token"
 fm:mg "Fault"=some (.ref CF)
 fk:W.keepIn K (.ref CF)=true
 most64_:GI mg "MOST" 64
 k1:GI mg "NO_TOKEN" 1
 k2:GI mg "CANNOT_STAND" 2
 k3:GI mg "NAME_TAKEN" 3
 k4:GI mg "NO_SUCH_GLASS" 4
 k5:GI mg "TOO_MANY" 5
 k6:GI mg "BAD_NUMBER" 6
def Fb (CF:Addr):Sp:=λvs H Q _=>∃ (x:Addr) (p k:Int),vs=[.ref x,.int p,.int k]/\H x=some (mV x CF none)/\∀ H2 d,H2 x=some (mV x CF (some d))->d≠x->H2 d=some (tj d (ff p k))->Q .non H2
theorem Fh:i6 ["self","place","kind"] ["self","place","kind"] (d8 K7):=⟨rfl,rfl,rfl,by decide +kernel,rfl,by decide +kernel,by decide +kernel⟩
theorem vF:typeLookup (.type "Exception") "place"=pure none:=by rfl
theorem yI:typeLookup (.type "Exception") "kind"=pure none:=by rfl
theorem Fx {f fI:Addr}{fd:FuncData}{names:List Str}(F:F1 K "__init__" "Fault.__init__" K7 f fd)(xc:mP K CF fI names)(h1:("place" : Str)∈names)(h2:("kind" : Str)∈names):o8 prog w K mg base (A7 prog w) 1 f fd ["self","place","kind"] (Fb CF):=by
 refine F.okX Fh (λvs H Q E h=>?_) (λcdv A outer s H vs Q E hr h=>?_)
 ·obtain⟨x,p,k,rfl,_⟩:=h;rfl
 ·obtain⟨x,p,k,rfl,hx,kk⟩:=h;refine a0 _ (c8 (rM xc h1 vF (pv 0) (pv 1) rfl) (d7 (rM xc h2 yI (pv 0) (pv 2) rfl))) ?_;refine a0 _ rfl (a0 _ rfl (z8 x none ([]) rfl hx (.inl ⟨rfl,rfl⟩) (by show 0<1000;decide) (λd hd ne=>?_)));refine a0 _ rfl (a0 _ rfl (z8 x (some d) _ rfl c9 (.inr (g9 d rfl ne (by rw[i0 ne,c9]))) (by show 1<1000;decide) (λd' hd' ne'=>?_)));rcases hd' with⟨z,_⟩|z
  ·cases z
  ·cases z;exact kk _ d c9 ne (by rw[i0 ne,c9];rfl)
def pW (K:W.Frag)(CR:Addr):Sp:=λvs H Q _=>∃ (G:Hp) (r:Addr) (b:Bytes) (p:Nat) (k:Ma.K),vs=[.ref r,.str (P1 k)]/\k∈dk/\l7 G H/\D1 K CR G H r b p/\Q (.bl (y4 k (i9 b p).1)) H
theorem yV:i6 ["self","kind"] ["self","kind"] (d8 X6):=⟨rfl,rfl,rfl,by decide +kernel,rfl,by decide +kernel,by decide +kernel⟩
theorem zw {f:Addr}{fd:FuncData}(F:F1 K "sees" "Reader.sees" X6 f fd)(T:Tr K mg CN CF CR):o8 prog w K mg base (A7 prog w) 1 f fd ["self","kind"] (pW K CR):=by
 refine F.okX yV (λvs H Q E h=>?_) (λcdv A outer s H vs Q E hr h=>?_)
 ·obtain⟨G,r,b,p,k,rfl,_⟩:=h;rfl
 ·obtain⟨G,r,b,p,k,rfl,hka,sm,⟨_,dx,t,tk,ho,ht,hk⟩,kk⟩:=h;refine a0 _ (d7 (j1 (V8 K2 (m7 r9 (t9 (pv 0) rfl) g8 (λ_ _=>rfl)) (pv 1) (n9 _)))) ?_;refine a0 _ rfl (l4 r CR dx _ _ rfl ho.at_ T.cl T.nToken (U1 _ _) (j5 tk _ _ _ rfl rfl (sm.seqT hk) rfl (g9 _ rfl rfl ?_)));have e:decide (V.str (fA (i9 b p).1)=V.str (P1 k))=decide (fA (i9 b p).1=P1 k):=decide_eq_decide.mpr ⟨λz=>V.str.inj z,λz=>by rw[z]⟩;rw[e,xQ (qZ b p) hka];exact kk
noncomputable def iZ (b:Bytes)(p:Nat):Bytes:=(b.drop (u0 b p)).take (i9 b p).2
theorem dB {b:Bytes}{p:Nat}(h:p<=b.length):u0 b p+(i9 b p).2<=b.length:=by
 have h1:=lq h;cases z:K1 (i9 b p).1 with
 |false =>
  have:=(Ma.ll _ z).2;rw[List.length_drop]at this;show u0 b p+(tokenIn (b.drop (u0 b p))).2<=_;omega
 |true =>
  have key:∀ c:Bytes,K1 (tokenIn c).1=true->(tokenIn c).2=0:=by
   intro c hc;cases c with
   |nil=>rfl
   |cons x r =>
    cases h1:isLetter x with
    |true =>
     rw[ir rfl h1]at hc⊢;split at hc
     ·rename_i hz;rw[if_pos hz]
     ·split at hc<;>cases hc
    |false =>
     cases h2:isDigit x with
     |true =>
      rw[qY rfl h1 h2,Ma.K3]at hc⊢;split at hc
      ·cases hc
      ·rename_i hz;rw[if_neg hz]
     |false =>
      rw[jY rfl h1 h2]at hc⊢;split at hc
      ·cases hc
      ·rename_i hz;rw[if_neg hz]
  have:(i9 b p).2=0:=key _ z;omega
def lB (K:W.Frag)(CR:Addr):Sp:=λvs H Q _=>∃ (G:Hp) (r:Addr) (b:Bytes) (p:Nat),vs=[.ref r]/\l7 G H/\D1 K CR G H r b p/\∀ v G' H',j6 [] G H G' H'->Bl G' v (iZ b p)->Q v H'
theorem wB:i6 ["self"] ["self"] (d8 T9):=⟨rfl,rfl,rfl,by decide +kernel,rfl,by decide +kernel,by decide +kernel⟩
theorem xg {f:Addr}{fd:FuncData}(F:F1 K "piece" "Reader.piece" T9 f fd)(T:Tr K mg CN CF CR):o8 prog w K mg base (A7 prog w) 1 f fd ["self"] (lB K CR):=by
 refine F.okX wB (λvs H Q E h=>?_) (λcdv A outer s H vs Q E hr h=>?_)
 ·obtain⟨G,r,b,p,rfl,_⟩:=h;rfl
 ·obtain⟨G,r,b,p,rfl,sm,⟨hle,dx,t,tk,ho,ht,hk⟩,kk⟩:=h;refine a0 _ (d7 (j1 (K0 N1 (t9 (pv 0) rfl) (J4 (m7 r9 (t9 (pv 0) rfl) g8 (λ_ _=>rfl))) (J4 (m7 r9 (t9 (pv 0) rfl) g8 (λ_ _=>rfl)))))) ?_;refine a0 _ rfl (l4 r CR dx _ _ rfl ho.at_ T.cl T.nText (rJ _ _) (a0 _ rfl (l4 r CR dx _ _ rfl ho.at_ T.cl T.nToken (U1 _ _) (j5 tk _ _ _ rfl rfl (sm.seqT hk) rfl (a0 _ rfl (a0 _ rfl (l4 r CR dx _ _ rfl ho.at_ T.cl T.nToken (U1 _ _) (j5 tk _ _ _ rfl rfl (sm.seqT hk) rfl (a0 _ rfl (h9 t _ rfl (sm.seq ht) (λl hl=>?_)))))))))));rw[fY b _ _ (lq hle) (dB hle),Nat.add_sub_cancel_left];exact kk _ _ _ ((j6.refl sm).lay hl) (a0 l rfl c9)
structure FI (w:World)(K:W.Frag)(mg:Str->Option Value)(base:Heap)(CF:Addr):Prop where
 ex:∃ fI fd names,mP K CF fI names/\o8 prog w K mg base (A7 prog w) 1 fI fd ["self","place","kind"] (Fb CF)/\V1 K fd ["self","place","kind"] []
def ee (CF:Addr)(E:XK)(e:Nat×Nat):Prop:=∀ H' d,EC H' d e.2 e.1->E (.ref CF) (some d) H'
def iC (K:W.Frag)(CR CF:Addr):Sp:=λvs H _ E=>∃ (G:Hp) (r:Addr) (b:Bytes) (p k:Nat),vs=[.ref r,.int (k:Int)]/\l7 G H/\D1 K CR G H r b p/\ee CF E (k,u0 b p)
theorem tR:i6 ["self","kind"] ["self","kind"] (d8 Q6):=⟨rfl,rfl,rfl,by decide +kernel,rfl,by decide +kernel,by decide +kernel⟩
theorem ub {f:Addr}{fd:FuncData}(F:F1 K "refuse" "Reader.refuse" Q6 f fd)(T:Tr K mg CN CF CR)(X:FI w K mg base CF):o8 prog w K mg base (A7 prog w) 3 f fd ["self","kind"] (iC K CR CF):=by
 obtain⟨fI,fdI,names,xc,FF,hb⟩:=X.ex;refine F.okX tR (λvs H Q E h=>?_) (λcdv A outer s H vs Q E hr h=>?_)
 ·obtain⟨G,r,b,p,k,rfl,_⟩:=h;rfl
 ·obtain⟨G,r,b,p,k,rfl,sm,⟨_,dx,t,tk,ho,ht,hk⟩,kk⟩:=h;refine a0 _ (d7 (tY N0 rfl rfl (by rfl) T.fm T.fk xc FF hr hb (c7 (m7 r9 (t9 (pv 0) rfl) g8 (λ_ _=>rfl)) (c7 (pv 1) d4)))) ?_;refine a0 _ rfl (l4 r CR dx _ _ rfl ho.at_ T.cl T.nToken (U1 _ _) (j5 tk _ _ _ rfl rfl (sm.seqT hk) rfl (g9 _ rfl (by show 2<=sizeLine;decide) (λx hx=>?_))));refine bP x _ _ rfl c9 (λH2 d h1 ne h2=>⟨rfl,a0 (some d) h1 (kk _ d ?_)⟩);show del H2 x d=_;rw[mF ne];exact h2
theorem L4 (ks:List Ma.K)(b:Bytes)(p:Nat):Ma.expect ks (Lx b p)=if(i9 b p).1=.broken then .error (1,u0 b p)else if(ks.any λk=>y4 k (i9 b p).1)=true then .ok ((),Lx b p)else .error (2,u0 b p):=by
 rw[Ma.D8,Ma.B5]
theorem FL {ks:List Ma.K}(h:∀ k∈ks,k∈dk){t:Ln.Text.Tok}(ht:pC t):Bj (.str (fA t)) (ks.map λk=>V.str (P1 k))=ks.any λk=>y4 k t:=by
 induction ks with
 |nil=>rfl
 |cons k ks ih =>
  show(P1 k==fA t||Bj (.str (fA t)) (ks.map λk=>V.str (P1 k)))=(y4 k t||ks.any λk=>y4 k t);rw[ih λq hq=>h q (List.mem_cons_of_mem _ hq),<-xQ ht (h k (List.mem_cons_self ..))];congr 1
  by_cases q:fA t=P1 k
  ·rw[q];simp
  ·rw[decide_eq_false q];exact beq_eq_false_iff_ne.mpr λz=>q z.symm
theorem Ei (ks:List Ma.K):(ks.map λk=>V.str (P1 k)).all ak=true:=by
 induction ks with
 |nil=>rfl
 |cons k ks ih=>exact ih
def iF (K:W.Frag)(CR CF:Addr):Sp:=λvs H Q E=>∃ (G:Hp) (r:Addr) (b:Bytes) (p:Nat) (kp:Addr) (ks:List Ma.K),vs=[.ref r,.ref kp]/\l7 G H/\D1 K CR G H r b p/\W2 K H kp (ks.map λk=>V.str (P1 k))/\(∀ k∈ks,k∈dk) /\
 match Ma.expect ks (Lx b p)with
 |.ok _=>Q .non H
 |.error e=>ee CF E e
theorem tS:i6 ["self","kinds"] ["self","kinds"] (d8 Q7):=⟨rfl,rfl,rfl,by decide +kernel,rfl,by decide +kernel,by decide +kernel⟩
theorem ud {f:Addr}{fd:FuncData}(F:F1 K "expect" "Reader.expect" Q7 f fd)(T:Tr K mg CN CF CR)(Ds:dm prog w K mg base 1 CR "sees" ["self","kind"] (pW K CR))(Dr:dm prog w K mg base 3 CR "refuse" ["self","kind"] (iC K CR CF)):o8 prog w K mg base (A7 prog w) 4 f fd ["self","kinds"] (iF K CR CF):=by
 refine F.okX tS (λvs H Q E h=>?_) (λcdv A outer s H vs Q E hr h=>?_)
 ·obtain⟨G,r,b,p,kp,ks,rfl,_⟩:=h;rfl
 ·obtain⟨G,r,b,p,kp,ks,rfl,sm,hR,hks,hall,kk⟩:=h;have hr1:=hr.mono (show 1<=3 by decide);obtain⟨_,dx,t,tk,ho,ht,hk⟩:=id hR;refine a0 _ (c8 (y2 (E8 (cP Ds T.cl hr1 d6 (pv 0) (c7 j9 d4))) (d7 (j8 (cP Dr T.cl hr d6 (pv 0) (c7 (fU T.k1) d4)))) l6)
   (d7 (y2 (m9 eN (m7 r9 (t9 (pv 0) rfl) g8 (λ_ _=>rfl)) (pv 1) rfl) (d7 (j8 (cP Dr T.cl hr d6 (pv 0) (c7 (fU T.k2) d4)))) l6))) ?_
  have hno:=kh t tk;rw[L4]at kk;refine a0 _ rfl (m8 r dx _ rfl ho.at_ (hno _ (by decide +kernel)) (C1 G r b p .none rfl (by decide +kernel) sm hR (a0 _ rfl (N9 (λh1=>?_) (λh1=>?_)))))
  ·have hb:(i9 b p).1=.broken:=eq_of_beq h1;rw[if_pos hb]at kk;exact a0 _ rfl (m8 r dx _ rfl ho.at_ (hno _ (by decide +kernel)) (bO G r b p 1 rfl sm hR kk))
  ·have hb:¬ (i9 b p).1=.broken:=λz=>by rw[z]at h1;cases h1
   rw[if_neg hb]at kk;refine a0 _ rfl (l4 r CR dx _ _ rfl ho.at_ T.cl T.nToken (U1 _ _) (j5 tk _ _ _ rfl rfl (sm.seqT hk) rfl (a0 _ rfl (J5 kp _ rfl (.inr hks) rfl (Ei ks) (a0 _ rfl ?_)))));show if(!Bj (.str (fA (i9 b p).1)) (ks.map λk=>V.str (P1 k)))=true then _ else _
   rw[FL hall (qZ b p)];cases hz:ks.any λk=>y4 k (i9 b p).1 with
   |true =>
    rw[hz,if_pos rfl]at kk;exact fW kk
   |false =>
    rw[hz,if_neg (by decide)]at kk;exact eV (a0 _ rfl (m8 r dx _ rfl ho.at_ (hno _ (by decide +kernel)) (bO G r b p 2 rfl sm hR kk)))
def pV (K:W.Frag)(CR:Addr):Sp:=λvs H Q _=>∃ (G:Hp) (r:Addr) (b:Bytes) (p:Nat),vs=[.ref r]/\l7 G H/\D1 K CR G H r b p/\∀ G' H',j6 [r] G H G' H'->D1 K CR G' H' r b (u0 b p+(i9 b p).2)->Q .non H'
theorem yU:i6 ["self"] ["self"] (d8 X5):=⟨rfl,rfl,rfl,by decide +kernel,rfl,by decide +kernel,by decide +kernel⟩
theorem zu {f:Addr}{fd:FuncData}(F:F1 K "step" "Reader.step" X5 f fd)(T:Tr K mg CN CF CR)(Dt:B8 prog w K mg base 5 "token_from" ["text","place"] (fJ K)):o8 prog w K mg base (A7 prog w) 6 f fd ["self"] (pV K CR):=by
 refine F.okX yU (λvs H Q E h=>?_) (λcdv A outer s H vs Q E hr h=>?_)
 ·obtain⟨G,r,b,p,rfl,_⟩:=h;rfl
 ·obtain⟨G,r,b,p,rfl,sm,⟨hle,dx,t,tk,ho,ht,hk⟩,kk⟩:=h;refine a0 _ (d7 (C4 (pv 0) (d9 Dt hr d6 (c7 (t9 (pv 0) rfl) (c7 (m7 r9 (t9 (pv 0) rfl) g8 (λ_ _=>rfl)) d4))) rfl)) ?_;refine a0 _ rfl (l4 r CR dx _ _ rfl ho.at_ T.cl T.nText (rJ _ _) (a0 _ rfl (l4 r CR dx _ _ rfl ho.at_ T.cl T.nToken (U1 _ _) (j5 tk _ _ _ rfl rfl (sm.seqT hk) rfl (j5 G _ b (u0 b p+(i9 b p).2) rfl sm (a0 t rfl ht) (dB hle) (λv G1 H1 e1 tv=>?_))))));obtain⟨u,rfl,hu⟩:=tv;have ho1:=ho.ext e1 (by simp);refine a0 _ rfl (l8 r CR dx _ rfl ho1.at_ T.cl T.nToken (by show 2<1000;decide) ?_);rw[Ca];have e2:j6 [r] G H G1 (i8 H1 r (.ins CR dx (rf t u))):=(e1.up (M:=[r])).put (.inr (by simp)) ho1.fr;exact kk _ _ e2 ⟨dB hle,bP dx t u ⟨c9,ho1.fr⟩ (e1.grow.seq ht) hu⟩
theorem Z1 (k:Ma.K)(b:Bytes)(p:Nat)(hn:K1 (i9 b p).1=true->y4 k (i9 b p).1=false):Ma.A4 k (Lx b p)=if(i9 b p).1=.broken then .error (1,u0 b p)else if y4 k (i9 b p).1=true then .ok ((i9 b p).1,Lx b (u0 b p+(i9 b p).2))else .error (2,u0 b p):=by
 rw[Ma.D8 b p,Ma.D7];dsimp only;cases z:y4 k (i9 b p).1 with
 |false=>rfl
 |true =>
  have:¬ K1 (i9 b p).1=true:=λq=>by rw[hn q]at z;cases z
  rw[if_neg this]
noncomputable def S5:List Ma.K:=WS.map Ma.K.w++U6.map Ma.K.m++[.name,.whole,.pointed]
theorem vK:∀ k∈S5,k∈dk:=by decide +kernel
theorem nk:∀ k∈S5,y4 k .end_=false/\y4 k .broken=false:=by decide +kernel
theorem O2 {k:Ma.K}(hk:k∈S5){t:Ln.Text.Tok}(h:K1 t=true):y4 k t=false:=by
 cases t with
 |end_=>exact(nk k hk).1
 |broken=>exact(nk k hk).2
 |_=>cases h
def wb (K:W.Frag)(CR CF:Addr):Sp:=λvs H Q E=>∃ (G:Hp) (r:Addr) (b:Bytes) (p:Nat) (k:Ma.K),vs=[.ref r,.str (P1 k)]/\l7 G H/\D1 K CR G H r b p/\k∈S5 /\
 match Ma.A4 k (Lx b p)with
 |.ok _=>∀ v G' H',j6 [r] G H G' H'->D1 K CR G' H' r b (u0 b p+(i9 b p).2)->Bl G' v (iZ b p)->Q v H'
 |.error e=>ee CF E e
theorem rE:i6 ["self","kind","piece"] ["self","kind"] (d8 X4):=⟨rfl,rfl,rfl,by decide +kernel,rfl,by decide +kernel,by decide +kernel⟩
theorem zt {f:Addr}{fd:FuncData}(F:F1 K "take" "Reader.take" X4 f fd)(T:Tr K mg CN CF CR)(De:dm prog w K mg base 4 CR "expect" ["self","kinds"] (iF K CR CF))(Dp:dm prog w K mg base 1 CR "piece" ["self"] (lB K CR))(Ds:dm prog w K mg base 6 CR "step" ["self"] (pV K CR)):o8 prog w K mg base (A7 prog w) 7 f fd ["self","kind"] (wb K CR CF):=by
 refine F.okX rE (λvs H Q E h=>?_) (λcdv A outer s H vs Q E hr h=>?_)
 ·obtain⟨G,r,b,p,k,rfl,_⟩:=h;rfl
 ·obtain⟨G,r,b,p,k,rfl,sm,hR,hk,kk⟩:=h;have hr1:=hr.mono (show 1<=6 by decide);have hr4:=hr.mono (show 4<=6 by decide);refine a0 _ (c8 (j8 (cP De T.cl hr4 d6 (pv 0) (c7 (z9 (c7 (pv 1) d4)) d4)))
   (c8 (i7 (i:=2) rE.nd rfl (Or.inl rfl) (iW Dp T.cl hr1 d6 (pv 0)))
   (c8 (j8 (iW Ds T.cl hr d6 (pv 0))) (d7 (j1 (pv 2)))))) ?_
  obtain⟨hle,dx,t,tk,ho,ht,hkk⟩:=id hR;refine a0 _ rfl (m8 r dx _ rfl ho.at_ (kh t tk _ (by decide +kernel)) (g9 _ rfl (by show 1<=sizeLine;decide) (λq hq=>?_)));have e1:j6 [] G H _ _:=(j6.refl sm).lay hq (o:=.tup [.str (P1 k)]);have hR1:=hR.ext e1 (by simp);refine L9 _ r b p q ([k]) rfl e1.sub hR1 (.of c9) (λz hz=>by rw[List.mem_singleton.mp hz];exact vK k hk) ?_;rw[Z1 k b p (O2 hk)]at kk;rw[L4];by_cases hb:(i9 b p).1=.broken
  ·rw[if_pos hb]at kk⊢;exact kk
  ·rw[if_neg hb]at kk⊢;have ea:([k].any λk=>y4 k (i9 b p).1)=y4 k (i9 b p).1:=by simp
   rw[ea];cases hz:y4 k (i9 b p).1 with
   |false=>rw[hz,if_neg (by decide)]at kk;rw[if_neg (by decide)];exact kk
   |true =>
    rw[hz,if_pos rfl]at kk;rw[if_pos rfl];obtain⟨_,dx1,t1,tk1,ho1,_,_⟩:=id hR1;refine a0 _ rfl (m8 r dx1 _ rfl ho1.at_ (kh t1 tk1 _ (by decide +kernel)) (q0 _ r b p rfl e1.sub hR1 (λv G2 H2 e2 hv=>?_)));have e12:=e1.trans e2;have hR2:=hR1.ext e2 (by simp);obtain⟨_,dx2,t2,tk2,ho2,_,_⟩:=id hR2;refine a0 _ rfl (m8 r dx2 _ rfl ho2.at_ (kh t2 tk2 _ (by decide +kernel)) (q0 G2 r b p rfl e12.sub hR2 (λG3 H3 e3 hR3=>(a0 _ rfl (kk _ _ _ ((e12.up (M:=[r])).trans e3) hR3 (Bl.mono _ _ _ _ e3.grow hv))))))
def EZ (K:W.Frag)(CR:Addr):Sp:=λvs H Q _=>∃ (G:Hp) (x dx:Addr) (a:V) (b:Bytes),vs=[.ref x,a]/\l7 G H/\M7 G H x (.ins CR dx [])/\Bs K G a b/\∀ G' H',j6 [x] G H G' H'->D1 K CR G' H' x b 0->Q .non H'
theorem Fg:i6 ["self","text"] ["self","text"] (d8 X7):=⟨rfl,rfl,rfl,by decide +kernel,rfl,by decide +kernel,by decide +kernel⟩
theorem Fu {f:Addr}{fd:FuncData}(F:F1 K "__init__" "Reader.__init__" X7 f fd)(T:Tr K mg CN CF CR)(Dt:B8 prog w K mg base 5 "token_from" ["text","place"] (fJ K)):o8 prog w K mg base (A7 prog w) 6 f fd ["self","text"] (EZ K CR):=by
 refine F.okX Fg (λvs H Q E h=>?_) (λcdv A outer s H vs Q E hr h=>?_)
 ·obtain⟨G,x,dx,a,b,rfl,_⟩:=h;rfl
 ·obtain⟨G,x,dx,_,b,rfl,sm,ho,⟨t,rfl,ht⟩,kk⟩:=h;refine a0 _ (c8 (C4 (pv 0) (pv 1) rfl) (d7 (C4 (pv 0) (d9 Dt hr d6 (c7 (pv 1) (c7 g8 d4))) rfl))) ?_;refine a0 _ rfl (a0 _ rfl (l8 x CR dx _ rfl ho.at_ T.cl T.nText (by show 0<1000;decide) ?_));have e0:j6 [x] G H G (i8 H x (.ins CR dx (C3 "text" (.ref t) []))):=(j6.refl sm).put (.inr (by simp)) ho.fr;refine a0 _ rfl (j5 G _ b 0 rfl e0.sub (a0 t rfl ht) (Nat.zero_le _) (λv G1 H1 e1 tv=>?_));obtain⟨u,rfl,hu⟩:=tv;have ho1:M7 G1 H1 x (.ins CR dx (C3 "text" (.ref t) [])):=M7.ext ⟨c9,ho.fr⟩ e1 (by simp);refine a0 _ rfl (l8 x CR dx _ rfl ho1.at_ T.cl T.nToken (by show 1<1000;decide) ?_);have e2:j6 [x] G H G1 (i8 H1 x (.ins CR dx (rf t u))):=(e0.tr0 e1).put (.inr (by simp)) ho1.fr;exact kk _ _ e2 ⟨Nat.zero_le _,bP dx t u ⟨c9,ho1.fr⟩ (e1.grow.seq ht) hu⟩
section
variable {K:W.Frag}{CR CF:Addr}{α β:Type}{R:Hp->V->β->Prop}{G H:Hp}{r:Addr}{b:Bytes}{p:Nat}{Q:VK}{E:XK}
def PQ (K:W.Frag)(CR CF:Addr)(m:P α)(R:Hp->V->α->Prop)(G H:Hp)(r:Addr)(b:Bytes)(p:Nat)(Q:VK)(E:XK):Prop:=match m (Lx b p)with
 |.ok (a,l')=>∀ v G' H' p',l'=Lx b p'->j6 [r] G H G' H'->D1 K CR G' H' r b p'->R G' v a->Q v H'
 |.error e=>ee CF E e
theorem PQ.later {m:P β}{G1 H1:Hp}{p1:Nat}{k:P β}(h:PQ K CR CF m R G H r b p Q E)(hm:m (Lx b p)=k (Lx b p1))(e:j6 [r] G H G1 H1):PQ K CR CF k R G1 H1 r b p1 Q E:=by
 unfold PQ at h⊢;rw[hm]at h;cases z:k (Lx b p1)with
 |error e=>rw[z]at h;exact h
 |ok x =>
  rw[z]at h;exact λv G' H' p' hl e' hR hr=>h v G' H' p' hl (e.trans e') hR hr
theorem PQ.bind {m:P α}{k:α->P β}{R1:Hp->V->α->Prop}{Q1:VK}(h:PQ K CR CF (m >>= k) R G H r b p Q E)
  (cont:∀ a v G1 H1 p1,m (Lx b p)=.ok (a,Lx b p1)->j6 [r] G H G1 H1->D1 K CR G1 H1 r b p1->R1 G1 v a->PQ K CR CF (k a) R G1 H1 r b p1 Q E->Q1 v H1):PQ K CR CF m R1 G H r b p Q1 E:=by
 have hb:=Ma.d5 m k (Lx b p);unfold PQ;cases z:m (Lx b p)with
 |error e =>
  rw[z]at hb;unfold PQ at h;rw[hb]at h;exact h
 |ok x =>
  obtain⟨a,l'⟩:=x;rw[z]at hb;intro v G' H' p' hl e hR hr;have hl':l'=Lx b p':=hl;subst hl';exact cont a v G' H' p' z e hR hr (h.later hb e)
theorem PQ.done {a:β}{v:V}(sm:l7 G H)(hR:D1 K CR G H r b p)(h:PQ K CR CF (pure a) R G H r b p Q E)(hv:R G v a):Q v H:=h v G H p rfl (j6.refl sm) hR hv
theorem PQ.sees {k:Ma.K}{f:Bool->P β}(h:PQ K CR CF (Ma.sees k >>= f) R G H r b p Q E):PQ K CR CF (f (y4 k (i9 b p).1)) R G H r b p Q E:=by
 unfold PQ at h⊢;have e:(Ma.sees k >>= f) (Lx b p)=f (y4 k (i9 b p).1) (Lx b p):=by
  rw[Ma.d5]
  conv=>lhs;rw[Ma.D8]
  rw[Ma.B7];dsimp only;rw[<-Ma.D8]
 rw[e]at h;exact h
theorem PQ.hd {f:Lex->P β}(h:PQ K CR CF (Ma.hd >>= f) R G H r b p Q E):PQ K CR CF (f ⟨u0 b p,(i9 b p).1⟩) R G H r b p Q E:=by
 unfold PQ at h⊢;have e:(Ma.hd >>= f) (Lx b p)=f ⟨u0 b p,(i9 b p).1⟩ (Lx b p):=by
  rw[Ma.d5]
  conv=>lhs;rw[Ma.D8]
  rw[Ma.sC];dsimp only;rw[<-Ma.D8]
 rw[e]at h;exact h
theorem PQ.expect {ks:List Ma.K}{f:Unit->P β}{Q1:Prop}(h:PQ K CR CF (Ma.expect ks >>= f) R G H r b p Q E)
  (cont:(i9 b p).1≠.broken->(ks.any λk=>y4 k (i9 b p).1)=true->PQ K CR CF (f ()) R G H r b p Q E->Q1):match Ma.expect ks (Lx b p)with
   |.ok _=>Q1
   |.error e=>ee CF E e:=by
 have hb:=Ma.d5 (Ma.expect ks) f (Lx b p);have ha:=L4 ks b p;unfold PQ at h;by_cases h1:(i9 b p).1=.broken
 ·rw[if_pos h1]at ha;rw[ha]at hb⊢;rw[hb]at h;exact h
 ·rw[if_neg h1]at ha;by_cases h2:(ks.any λk=>y4 k (i9 b p).1)=true
  ·rw[if_pos h2]at ha;rw[ha]at hb⊢;exact cont h1 h2 (by unfold PQ;rw[hb]at h;exact h)
  ·rw[if_neg h2]at ha;rw[ha]at hb⊢;rw[hb]at h;exact h
theorem PQ.take {k:Ma.K}{f:Ln.Text.Tok->P β}{Q1:VK}(hk:k∈S5)(h:PQ K CR CF (Ma.A4 k >>= f) R G H r b p Q E)
  (cont:∀ v G1 H1,y4 k (i9 b p).1=true->j6 [r] G H G1 H1->D1 K CR G1 H1 r b (u0 b p+(i9 b p).2)->Bl G1 v (iZ b p)->PQ K CR CF (f (i9 b p).1) R G1 H1 r b (u0 b p+(i9 b p).2) Q E->Q1 v H1):match Ma.A4 k (Lx b p)with
   |.ok _=>∀ v G' H',j6 [r] G H G' H'->D1 K CR G' H' r b (u0 b p+(i9 b p).2)->Bl G' v (iZ b p)->Q1 v H'
   |.error e=>ee CF E e:=by
 have hb:=Ma.d5 (Ma.A4 k) f (Lx b p);have ha:=Z1 k b p (O2 hk);by_cases h1:(i9 b p).1=.broken
 ·rw[if_pos h1]at ha;rw[ha]at hb⊢;unfold PQ at h;rw[hb]at h;exact h
 ·rw[if_neg h1]at ha;by_cases h2:y4 k (i9 b p).1=true
  ·rw[if_pos h2]at ha;rw[ha]at hb⊢;exact λv G' H' e hR hv=>cont v G' H' h2 e hR hv (h.later hb e)
  ·rw[if_neg h2]at ha;rw[ha]at hb⊢;unfold PQ at h;rw[hb]at h;exact h
theorem PQ.pass {f:Unit->P β}{G1 H1:Hp}(hn:K1 (i9 b p).1=false)(h:PQ K CR CF (Ln.Text.pass >>= f) R G H r b p Q E)(e:j6 [r] G H G1 H1):PQ K CR CF (f ()) R G1 H1 r b (u0 b p+(i9 b p).2) Q E:=by
 refine h.later ?_ e;rw[Ma.d5,Ma.E9];dsimp only;rw[Ma.D8 b p,hn,if_neg (by decide)];rfl
theorem PQ.refuse {n:Nat}(h:PQ K CR CF (Ma.refuse n:P β) R G H r b p Q E):ee CF E (n,u0 b p):=by
 unfold PQ at h;have e:(Ma.refuse n:P β) (Lx b p)=.error (n,u0 b p):=by rw[Ma.D8];rfl
 rw[e]at h;exact h
theorem L0 {k:Ma.K}(hk:k∈S5)(h:y4 k (i9 b p).1=true):K1 (i9 b p).1=false:=by
 cases z:K1 (i9 b p).1 with
 |false=>rfl
 |true=>rw[O2 hk z]at h;cases h
end
def pG (K:W.Frag)(CR CF:Addr){α:Type}(m:P α)(R:Hp->V->α->Prop):Sp:=λvs H Q E=>∃ (G:Hp) (r:Addr) (b:Bytes) (p:Nat),vs=[.ref r]/\l7 G H/\D1 K CR G H r b p/\PQ K CR CF m R G H r b p Q E
def Rq (K:W.Frag):Hp->V->Rat->Prop:=λG v q=>Fr K G v q/\Ma.Sz 60 q
structure pH (w:World)(K:W.Frag)(mg:Str->Option Value)(base:Heap)(CR CF:Addr):Prop where
 sees:dm prog w K mg base 1 CR "sees" ["self","kind"] (pW K CR)
 piece:dm prog w K mg base 1 CR "piece" ["self"] (lB K CR)
 refuse:dm prog w K mg base 3 CR "refuse" ["self","kind"] (iC K CR CF)
 expect:dm prog w K mg base 4 CR "expect" ["self","kinds"] (iF K CR CF)
 step:dm prog w K mg base 6 CR "step" ["self"] (pV K CR)
 take:dm prog w K mg base 7 CR "take" ["self","kind"] (wb K CR CF)
theorem Fp {b:Bytes}{p:Nat}:iZ b p=(b.drop (u0 b p)).take (tokenIn (b.drop (u0 b p))).2:=rfl
theorem oR {t:Ln.Text.Tok}(h:y4 .pointed t=true):∃ n k,t=.num n k true:=by
 cases t with
 |num n k pt=>cases pt with
  |true=>exact P9 n k rfl
  |false=>cases h
 |_=>cases h
theorem uD {t:Ln.Text.Tok}(h:y4 .whole t=true):∃ n k,t=.num n k false:=by
 cases t with
 |num n k pt=>cases pt with
  |false=>exact P9 n k rfl
  |true=>cases h
 |_=>cases h
theorem qa:i6 ["reader","piece","point"] ["reader"] (d8 S9):=⟨rfl,rfl,rfl,by decide +kernel,rfl,by decide +kernel,by decide +kernel⟩
theorem GC {a:Bytes}(h:a.all isDigit=true){m:Nat}(hm:m<a.length):((a[m].toNat:Nat):Int)≠46:=by
 have:=yl (sV h hm);omega
theorem CC {f:Addr}{fd:FuncData}(F:F1 K "read_pointed" "read_pointed" S9 f fd)(T:Tr K mg CN CF CR)(D:pH w K mg base CR CF)(Dp:B8 prog w K mg base 3 "pointed_value" ["front","back"] (fK K)):o8 prog w K mg base (A7 prog w) 8 f fd ["reader"] (pG K CR CF Ma.eJ (Rq K)):=by
 refine F.okX qa (λvs H Q E h=>?_) (λcdv A outer s H vs Q E hr h=>?_)
 ·obtain⟨G,r,b,p,rfl,_⟩:=h;rfl
 ·obtain⟨G,r,b,p,rfl,sm,hR,kk⟩:=h;have hr3:=hr.mono (show 3<=7 by decide);refine a0 _ (c8 (i7 (i:=1) qa.nd rfl (Or.inl rfl) (cP D.take T.cl hr d6 (pv 0) (c7 j9 d4)))
   (c8 (i7 (i:=2) qa.nd rfl (Or.inl rfl) (kl PySem.F.plainAttrs_list PySem.F.slot_list_index PySem.F.type_list_index xw (pv 1) (c7 (fU T.point_) d4)))
   (d7 (j1 (d9 Dp hr3 d6 (c7 (K0 N1 (pv 1) V7 (J4 (pv 2))) (c7 (K0 N1 (pv 1) (J4 (i5 C7 (pv 2) g8)) V7) d4))))))) ?_
  obtain⟨_,dx,t,tk,ho,_,_⟩:=id hR;have hk:Ma.K.pointed∈S5:=by decide +kernel
  refine a0 _ rfl (m8 r dx _ rfl ho.at_ (kh t tk _ (by decide +kernel)) (C1 G r b p .pointed rfl sm hR hk (PQ.take hk kk λv G1 H1 h1 e1 hR1 hv k1=>?_)));obtain⟨u,rfl,hu⟩:=hv;obtain⟨n,k,ht⟩:=oR h1;obtain⟨x,y,hpc,hx,hy,hn,hz,hl⟩:=Ma.jL (c:=b.drop (u0 b p)) ht;rw[Fp,hpc]at hu;have hu1:=e1.sub _ _ hu;have hlen:(x++46::y).length=x.length+1+y.length:=by simp;omega
  have hat:(j0 (x++46::y))[x.length]?=some (.int 46):=by
   have hlt:x.length<(x++46::y).length:=by rw[hlen];omega
   rw[bo hlt];rw[List.getElem_append_right (Nat.le_refl _)];simp
  refine g9 _ rfl (.inl ⟨rfl,l9 _ (C9.of hu1)⟩) (p9 u _ (.int 46) x.length (.int 46) ⟨rfl,rfl,C9.of hu1,rfl,?_,hat,rfl,?_,?_⟩)
  ·unfold j0;rw[List.all_map];exact List.all_eq_true.mpr λ_ _=>rfl
  ·intro m z' hm hz';have hlt:m<(x++46::y).length:=by rw[hlen];omega
   rw[bo hlt,List.getElem_append_left hm]at hz';have:=Option.some.inj hz';subst this;exact beq_eq_false_iff_ne.mpr (GC hx hm)
  ·refine a0 _ rfl (a0 _ rfl (a0 _ rfl (h9 u _ rfl (C9.of hu1) (λl hl1=>?_))));have hx1:aq (j0 (x++46::y)) none (some ((x.length:Nat):Int))=j0 x:=by
    rw[qH _ _ (by rw[hlen];omega)];rw[List.take_append_of_le_length (Nat.le_refl _),List.take_length]
   rw[hx1];have e2:=e1.lay hl1 (o:=.lst (j0 x));have hu2:=e2.sub _ _ (show i8 G1 l _ u=_ by rw[i0 (j3 hu1 hl1)];exact hu);refine a0 _ rfl (a0 _ rfl (h9 _ _ rfl rfl (a0 _ rfl (h9 u _ rfl (C9.of hu2) (λl2 hl2=>?_)))));have hy1:aq (j0 (x++46::y)) (some (((x.length:Nat):Int)+1)) none=j0 y:=by
    have:=jA (x++46::y) (x.length+1);have hd:(x++46::y).drop (x.length+1)=y:=by
     rw[<-List.drop_drop,List.drop_left];rfl
    rw[hd]at this;exact this
   rw[hy1];have e3:=e2.lay hl2 (o:=.lst (j0 y));have ne:l≠l2:=j3 (c9 (H:=H1) (a:=l)) hl2;refine M0 _ _ _ x y rfl e3.sub (a0 l rfl (by rw[i0 ne,c9])) (a0 l2 rfl c9) ?_ (by omega) (λv G4 H4 e4 f4=>?_)
   ·rw[List.all_append,hx,hy];rfl
   ·have e34:j6 [r] G1 H1 G4 H4:=(((j6.refl e1.sub).lay hl1).lay hl2).trans e4.up;have hR4:=(hR1.ext (((j6.refl e1.sub).lay hl1).lay hl2:j6 [] G1 H1 _ _) (by simp)).ext e4 (by simp);have k4:=k1.later (k:=pure ((Ma.dN (i9 b p).1:Rat)/(10^Ma.Fz (i9 b p).1:Nat))) (p1:=u0 b p+(i9 b p).2) rfl e34;have ht':(i9 b p).1=.num n k true:=ht;rw[ht']at k4;refine PQ.done e4.sub hR4 k4 ⟨?_,?_⟩
    ·rw[hn,hz]at f4;exact f4
    ·refine Ma.vT ?_ ?_ ?_
     ·have:=Ma.kx (l:=x++y) (by rw[List.all_append,hx,hy];rfl) (by rw[List.length_append];exact hl);show n<_;rw[hn]at this;exact this
     ·show 10^k<2^60;exact Nat.lt_of_le_of_lt (Nat.pow_le_pow_right (by decide) (by omega:k<=18)) (by decide)
     ·exact Nat.ne_of_gt (Nat.pow_pos (by decide))
def He (C:Addr)(m:Str)(sp:Sp)(E:XK)(i:Nat)(t:TA):TE:=λσ H Q=>∃ r,σ[i]?=some (some (.ref r))/\(∃ dx fs,H r=some (.ins C dx fs)/\fs.lookup m=none)/\t σ H λvs H2=>sp (.ref r::vs) H2 Q E
theorem D1.m {K:W.Frag}{CR:Addr}{G H:Hp}{r:Addr}{b:Bytes}{p:Nat}(h:D1 K CR G H r b p){m:Str}(hm:m∈eO):∃ dx fs,H r=some (.ins CR dx fs)/\fs.lookup m=none:=by
 obtain⟨_,dx,t,tk,ho,_,_⟩:=h;exact J0 dx _ ho.at_ (kh t tk m hm)
theorem m1:("sees" : Str)∈eO:=by decide +kernel
theorem m2:("piece" : Str)∈eO:=by decide +kernel
theorem m3:("refuse" : Str)∈eO:=by decide +kernel
theorem m4:("expect" : Str)∈eO:=by decide +kernel
theorem m5:("step" : Str)∈eO:=by decide +kernel
theorem m6:("take" : Str)∈eO:=by decide +kernel
section
variable {X:Cx}{k:Nat}{C:Addr}{m x:Str}{ps:List Str}{sp:Sp}{E:XK}{p1 apos pos:Pos}{e:Expr}{es:List Expr}{t:TA}{i:Nat}
theorem cO {pl:Sem Bool}(D:dm X.prog X.w X.K X.mg X.base k C m ps sp)(c:kZ X.K C)(hr:F9 k X.A)(hx:F6 (A7 X.prog X.w) X E)(he:PE X (.Name x p1) (J6 i))(ha:PA X (e::es) t)
  (hst:starEach (e::es) X.env=(false,eval e X.env)::starEach es X.env:=by rfl) (hpl:(backTo pos (starEach es X.env)).any (·.1)=false:=by rfl)
  (ht:eval (.Call (.Attribute (.Name x p1) m apos) (e::es) [] pos) X.env=(do
   let ov ← eval (.Name x p1) X.env
   standAt apos.atName
   let(f,first) ← holding [ov] (getMethod ov m pl)
   callWith pos f first (backTo pos (starEach (e::es) X.env)) (backToKw pos (keywordEach [] X.env))):=by rfl) :
  PE X (.Call (.Attribute (.Name x p1) m apos) (e::es) [] pos) (He C m sp E i t):=by
 intro pins s σ H Q I ⟨r,e1,⟨dx,fs,e2,e3⟩,h⟩;refine cP D c hr hx he ha hst hpl ht pins s σ H Q I (a0 _ e1 (m8 r dx fs rfl e2 e3 ?_));simp only[List.append_nil];exact h
theorem eK {pl:Sem Bool}(D:dm X.prog X.w X.K X.mg X.base k C m ps sp)(c:kZ X.K C)(hr:F9 k X.A)(hx:F6 (A7 X.prog X.w) X E)(he:PE X (.Name x p1) (J6 i))
  (ht:eval (.Call (.Attribute (.Name x p1) m apos) [] [] pos) X.env=(do
   let ov ← eval (.Name x p1) X.env
   standAt apos.atName
   let(f,first) ← holding [ov] (getMethod ov m pl)
   callWith pos f first (backTo pos (starEach [] X.env)) (backToKw pos (keywordEach [] X.env))):=by rfl) :
  PE X (.Call (.Attribute (.Name x p1) m apos) [] [] pos) (He C m sp E i fH):=by
 intro pins s σ H Q I ⟨r,e1,⟨dx,fs,e2,e3⟩,h⟩;exact iW D c hr hx he ht pins s σ H Q I (a0 _ e1 (m8 r dx fs rfl e2 e3 h))
end
theorem qF {K:W.Frag}{G:Hp}{l:Addr}(n:Nat)(h:G l=some (.tup [.int (n:Int),.int 1])):Fr K G (.ref l) (n:Rat):=by
 refine a0 l rfl (.of ?_);rw[Rat.num_natCast,Rat.den_natCast];exact h
theorem lJ:i6 ["reader","top","bottom"] ["reader"] (d8 W9):=⟨rfl,rfl,rfl,by decide +kernel,rfl,by decide +kernel,by decide +kernel⟩
theorem FK:∀ k∈[Ma.K.whole,Ma.K.pointed],k∈dk:=by decide +kernel
theorem GD:∀ k∈[Ma.K.whole],k∈dk:=by decide +kernel
theorem iw:Ma.K.whole∈S5:=by decide +kernel
theorem vG:Ma.K.m 47∈S5:=by decide +kernel
theorem nh {b:Bytes}{p:Nat}(h:y4 .whole (i9 b p).1=true):(iZ b p).all isDigit=true/\natural (iZ b p)=Ma.dN (i9 b p).1/\natural (iZ b p)<2^60:=by
 obtain⟨n,k,ht⟩:=uD h;obtain⟨h1,h2,h3⟩:=Ma.nJ (c:=b.drop (u0 b p)) ht;refine⟨h1,?_,Ma.kx h1 h3⟩;have:(i9 b p).1=.num n k false:=ht;rw[this];exact h2
theorem zy {f:Addr}{fd:FuncData}(F:F1 K "read_number" "read_number" W9 f fd)(T:Tr K mg CN CF CR)(D:pH w K mg base CR CF)(Dp:B8 prog w K mg base 8 "read_pointed" ["reader"] (pG K CR CF Ma.eJ (Rq K)))(Dw:B8 prog w K mg base 1 "whole_value" ["digits"] (gW K))(Do:B8 prog w K mg base 3 "over" ["x","y"] (rq K yz λp q=>p/q)) :
  o8 prog w K mg base (A7 prog w) 9 f fd ["reader"] (pG K CR CF Ma.C2 (Rq K)):=by
 refine F.okX lJ (λvs H Q E h=>?_) (λcdv A outer s H vs Q E hr h=>?_)
 ·obtain⟨G,r,b,p,rfl,_⟩:=h;rfl
 ·obtain⟨G,r,b,p,rfl,sm,hR,kk⟩:=h;have hr1:=hr.mono (show 1<=8 by decide);have hr3:=hr.mono (show 3<=8 by decide);have hr4:=hr.mono (show 4<=8 by decide);have hr6:=hr.mono (show 6<=8 by decide);have hr7:=hr.mono (show 7<=8 by decide);refine a0 _ (c8 (j8 (cO D.expect T.cl hr4 d6 (pv 0) (c7 (z9 (c7 j9 (c7 j9 d4))) d4)))
   (c8 (y2 (E8 (cO D.sees T.cl hr1 d6 (pv 0) (c7 j9 d4))) (d7 (j1 (d9 Dp hr d6 (c7 (pv 0) d4)))) l6)
   (c8 (i7 (i:=1) lJ.nd rfl (Or.inl rfl) (d9 Dw hr1 d6 (c7 (cO D.take T.cl hr7 d6 (pv 0) (c7 j9 d4)) d4)))
   (c8 (y2 (iQ (E8 (cO D.sees T.cl hr1 d6 (pv 0) (c7 j9 d4)))) (d7 (j1 (z9 (c7 (pv 1) (c7 g8 d4))))) l6)
   (c8 (j8 (eK D.step T.cl hr6 d6 (pv 0)))
   (c8 (j8 (cO D.expect T.cl hr4 d6 (pv 0) (c7 (z9 (c7 j9 d4)) d4)))
   (c8 (i7 (i:=2) lJ.nd rfl (Or.inl rfl) (d9 Dw hr1 d6 (c7 (eK D.piece T.cl hr1 d6 (pv 0)) d4)))
   (c8 (y2 (m9 K2 (pv 2) g8 (n9 _)) (d7 (j8 (cO D.refuse T.cl hr3 d6 (pv 0) (c7 (fU T.k6) d4)))) l6)
   (c8 (j8 (eK D.step T.cl hr6 d6 (pv 0)))
   (d7 (j1 (d9 Do hr3 d6 (c7 (z9 (c7 (pv 1) (c7 g8 d4))) (c7 (z9 (c7 (pv 2) (c7 g8 d4))) d4)))))))))))))) ?_
  refine M9 r rfl (hR.m m4) (by show 2<=sizeLine;decide) (λq hq=>?_);have e1:j6 [] G H _ _:=(j6.refl sm).lay hq (o:=.tup [.str "whole",.str "pointed"]);have hR1:=hR.ext e1 (by simp);replace kk:=kk.later (k:=Ma.C2) (p1:=p) rfl (e1.up (M:=[r]));unfold Ma.C2 at kk;refine L9 _ r b p q ([.whole,.pointed]) rfl e1.sub hR1 (.of c9) FK (kk.expect λhb1 hany k1=>?_);replace k1:=k1.sees;generalize i8 G q (.tup [.str "whole",.str "pointed"])=G1 at e1 hR1 k1;generalize i8 H q (.tup [.str "whole",.str "pointed"])=H1 at e1 hR1 k1;refine g9 r rfl (hR1.m m1) (C1 G1 r b p .pointed rfl (by decide +kernel) e1.sub hR1 (a0 _ rfl (N9 (λhp=>?_) (λhp=>?_))))
  ·rw[hp,if_pos rfl]at k1;exact a0 _ rfl (q0 G1 r b p rfl e1.sub hR1 k1)
  rw[hp,if_neg (by decide)]at k1;refine g9 r rfl (hR1.m m6) (C1 G1 r b p .whole rfl e1.sub hR1 iw (k1.take iw λv G2 H2 hw e2 hR2 hv k2=>?_));obtain⟨w1,w2,w3⟩:=nh hw;refine z8 G2 _ _ rfl e2.sub hv.bs w1 ?_;rw[w2]at w3⊢;generalize Ma.dN (i9 b p).1=n at w3 k2;generalize u0 b p+(i9 b p).2=p2 at hR2 k2;replace k2:=k2.sees;refine g9 r rfl (hR2.m m1) (C1 G2 r b p2 (.m 47) rfl (by decide +kernel) e2.sub hR2 (a0 _ rfl ?_));cases hs:y4 (.m 47) (i9 b p2).1 with
  |false =>
   rw[hs,if_pos rfl]at k2;refine eV (g9 _ rfl (by show 2<=sizeLine;decide) (λl hl=>?_));have e3:j6 [] G2 H2 _ _:=(j6.refl e2.sub).lay hl (o:=.tup [.int (n:Int),.int 1]);exact PQ.done e3.sub (hR2.ext e3 (by simp)) (k2.later rfl e3.up) ⟨qF n c9,Ma.pP w3⟩
  |true =>
  rw[hs,if_neg (by decide)]at k2;refine fW ?_;refine g9 r rfl (hR2.m m5) (q0 G2 r b p2 rfl e2.sub hR2 (λG3 H3 e3 hR3=>?_));have k3:=k2.pass (L0 vG hs) e3;generalize u0 b p2+(i9 b p2).2=p3 at hR3 k3;refine M9 r rfl (hR3.m m4) (by show 1<=sizeLine;decide) (λq2 hq2=>?_);have e4:j6 [] G3 H3 _ _:=(j6.refl e3.sub).lay hq2 (o:=.tup [.str "whole"]);have hR4:=hR3.ext e4 (by simp);have k4:=k3.later (p1:=p3) rfl (e4.up (M:=[r]));refine L9 _ r b p3 q2 ([.whole]) rfl e4.sub hR4 (.of c9) GD (k4.expect λhb4 hany4 k5=>?_);have hw4:y4 .whole (i9 b p3).1=true:=by simpa using hany4
  replace k5:=k5.hd;generalize i8 G3 q2 (.tup [.str "whole"])=G4 at e4 hR4 k5;generalize i8 H3 q2 (.tup [.str "whole"])=H4 at e4 hR4 k5;refine g9 r rfl (hR4.m m2) (q0 G4 r b p3 rfl e4.sub hR4 (λv5 G5 H5 e5 hv5=>?_));obtain⟨x1,x2,x3⟩:=nh hw4;have hR5:=hR4.ext e5 (by simp);refine z8 G5 _ _ rfl e5.sub hv5.bs x1 ?_;rw[x2]at x3⊢;have k6:=k5.later (p1:=p3) rfl (e5.up (M:=[r]));dsimp only at k6;refine g9 _ rfl rfl (a0 _ rfl (N5 (λh0=>?_) (λh0=>?_)))
  ·rw[if_pos (show Ma.dN (i9 b p3).1=0 by omega)]at k6;exact g9 r rfl (hR5.m m3) (bO G5 r b p3 6 rfl e5.sub hR5 k6.refuse)
  have h0':Ma.dN (i9 b p3).1≠0:=by omega
  rw[if_neg h0']at k6;generalize Ma.dN (i9 b p3).1=m at x3 k6 h0 h0';refine g9 r rfl (hR5.m m5) (q0 G5 r b p3 rfl e5.sub hR5 (λG6 H6 e6 hR6=>?_));have k7:=k6.pass (L0 iw hw4) e6;refine g9 _ rfl (by show 2<=sizeLine;decide) (λl1 hl1=>?_);have e7:j6 [] G6 H6 _ _:=(j6.refl e6.sub).lay hl1 (o:=.tup [.int (n:Int),.int 1]);refine g9 _ rfl (by show 2<=sizeLine;decide) (λl2 hl2=>?_);have e8:=e7.lay hl2 (o:=.tup [.int (m:Int),.int 1]);have ne:l1≠l2:=j3 (c9 (H:=H6) (a:=l1)) hl2;refine l4 _ _ _ (n:Rat) (m:Rat) rfl e8.sub (qF n (by rw[i0 ne,c9])) (qF m c9) ⟨(Ma.pP w3).mono (by decide),(Ma.pP x3).mono (by decide),?_⟩ (λv9 G9 H9 e9 f9=>?_)
  ·intro z;exact h0' (by exact_mod_cast z)
  ·have e10:j6 [] G6 H6 G9 H9:=e8.trans e9;exact PQ.done e9.sub (hR6.ext e10 (by simp)) (k7.later rfl e10.up) ⟨f9,Ma.vT w3 x3 h0'⟩
theorem kU (bad:Bool)(ks:List Ma.K)(b:Bytes)(p:Nat):Ma.D9 bad ks (Lx b p)=if(i9 b p).1=.broken then .error (1,u0 b p)else if(ks.any λk=>y4 k (i9 b p).1)=true then(if bad=true then .error (6,u0 b p)else .ok ((),Lx b p))else .error (2,u0 b p):=by
 rw[Ma.D8,Ma.br]
theorem PQ.before {K:W.Frag}{CR CF:Addr}{β:Type}{R:Hp->V->β->Prop}{G H:Hp}{r:Addr}{b:Bytes}{p:Nat}{Q:VK}{E:XK}{bad:Bool}{ks:List Ma.K}{f:Unit->P β}{Q1:Prop}(h:PQ K CR CF (Ma.D9 bad ks >>= f) R G H r b p Q E)
  (cont:(i9 b p).1≠.broken->(ks.any λk=>y4 k (i9 b p).1)=true->bad=false->PQ K CR CF (f ()) R G H r b p Q E->Q1):match Ma.D9 bad ks (Lx b p)with
   |.ok _=>Q1
   |.error e=>ee CF E e:=by
 have hb:=Ma.d5 (Ma.D9 bad ks) f (Lx b p);have ha:=kU bad ks b p;unfold PQ at h;by_cases h1:(i9 b p).1=.broken
 ·rw[if_pos h1]at ha;rw[ha]at hb⊢;rw[hb]at h;exact h
 ·rw[if_neg h1]at ha;by_cases h2:(ks.any λk=>y4 k (i9 b p).1)=true
  ·rw[if_pos h2]at ha;cases bad with
   |true =>
    rw[if_pos rfl]at ha;rw[ha]at hb⊢;rw[hb]at h;exact h
   |false =>
    rw[if_neg (by decide)]at ha;rw[ha]at hb⊢;exact cont h1 h2 rfl (by unfold PQ;rw[hb]at h;exact h)
  ·rw[if_neg h2]at ha;rw[ha]at hb⊢;rw[hb]at h;exact h
theorem S6 {n:Nat}{r:Rat}(h:Ma.Sz n r)(h0:r≠0):Ma.Sz n (1/r):=by
 rw[Ma.qG 1 r h0];refine Ma.Sz.div ?_ ?_ ?_
 ·show((1:Rat).num*(r.den:Int)).natAbs<_;rw[show(1:Rat).num=1 from rfl,Int.one_mul];exact h.2
 ·show(((1:Rat).den:Int)*r.num).natAbs<_;rw[show(((1:Rat).den:Nat):Int)=1 from rfl,Int.one_mul];exact h.1
 ·rw[show(((1:Rat).den:Nat):Int)=1 from rfl,Int.one_mul];exact λz=>h0 (Rat.num_eq_zero.mp z)
theorem DP (q:Rat):decide (q.num<(q.den:Int))=decide (q<1):=decide_eq_decide.mpr (by
 rw[Rat.lt_iff];show _↔q.num*(1:Int)<1*(q.den:Int);rw[Int.mul_one,Int.one_mul])
theorem sI (q:Rat):decide (V.int q.num=V.int 0)=decide (q=0):=decide_eq_decide.mpr ⟨λh=>Rat.num_eq_zero.mp (V.int.inj h),λh=>by rw[h];rfl⟩
theorem yW:i6 ["reader"] ["reader"] (d8 aL):=⟨rfl,rfl,rfl,by decide +kernel,rfl,by decide +kernel,by decide +kernel⟩
theorem zx {f:Addr}{fd:FuncData}(F:F1 K "read_value" "read_value" aL f fd)(T:Tr K mg CN CF CR)(D:pH w K mg base CR CF)(Dn:B8 prog w K mg base 9 "read_number" ["reader"] (pG K CR CF Ma.C2 (Rq K)))(Dg:B8 prog w K mg base 1 "negative" ["x"] (sp1 K (λ_=>True) λp=>-p)) :
  o8 prog w K mg base (A7 prog w) 10 f fd ["reader"] (pG K CR CF Ma.X8 (Rq K)):=by
 refine F.okX yW (λvs H Q E h=>?_) (λcdv A outer s H vs Q E hr h=>?_)
 ·obtain⟨G,r,b,p,rfl,_⟩:=h;rfl
 ·obtain⟨G,r,b,p,rfl,sm,hR,kk⟩:=h;have hr1:=hr.mono (show 1<=9 by decide);have hr6:=hr.mono (show 6<=9 by decide);refine a0 _ (c8 (y2 (iQ (E8 (cO D.sees T.cl hr1 d6 (pv 0) (c7 j9 d4)))) (d7 (j1 (d9 Dn hr d6 (c7 (pv 0) d4)))) l6)
   (c8 (j8 (eK D.step T.cl hr6 d6 (pv 0))) (d7 (j1 (d9 Dg hr1 d6 (c7 (d9 Dn hr d6 (c7 (pv 0) d4)) d4)))))) ?_
  unfold Ma.X8 at kk;replace kk:=kk.sees;refine g9 r rfl (hR.m m1) (C1 G r b p (.m 45) rfl (by decide +kernel) sm hR (a0 _ rfl ?_));cases hs:y4 (.m 45) (i9 b p).1 with
  |false =>
   rw[hs,if_pos rfl]at kk;exact eV (a0 _ rfl (q0 G r b p rfl sm hR kk))
  |true =>
   rw[hs,if_neg (by decide)]at kk;refine fW (g9 r rfl (hR.m m5) (q0 G r b p rfl sm hR (λG1 H1 e1 hR1=>?_)));have k1:=kk.pass (L0 (k:=.m 45) (by decide +kernel) hs) e1;refine a0 _ rfl (q0 G1 r b _ rfl e1.sub hR1 (k1.bind λq v G2 H2 p2 _ e2 hR2 hv k2=>?_));refine z8 G2 _ q rfl e2.sub hv.1 trivial (λv3 G3 H3 e3 f3=>?_);exact PQ.done e3.sub (hR2.ext e3 (by simp)) (k2.later rfl e3.up) ⟨f3,hv.2.neg⟩
def eo (K:W.Frag)(CR CF:Addr):Sp:=λvs H Q E=>∃ (G:Hp) (r:Addr) (b:Bytes) (p:Nat) (bad:Bool) (kp:Addr) (ks:List Ma.K),vs=[.ref r,.bl bad,.ref kp]/\l7 G H/\D1 K CR G H r b p/\W2 K H kp (ks.map λk=>V.str (P1 k))/\(∀ k∈ks,k∈dk) /\
 match Ma.D9 bad ks (Lx b p)with
 |.ok _=>Q .non H
 |.error e=>ee CF E e
theorem BU:i6 ["reader","refused","behind"] ["reader","refused","behind"] (d8 F2):=⟨rfl,rfl,rfl,by decide +kernel,rfl,by decide +kernel,by decide +kernel⟩
theorem DC {f:Addr}{fd:FuncData}(F:F1 K "refuse_number_before" "refuse_number_before" F2 f fd)(T:Tr K mg CN CF CR)(D:pH w K mg base CR CF):o8 prog w K mg base (A7 prog w) 5 f fd ["reader","refused","behind"] (eo K CR CF):=by
 refine F.okX BU (λvs H Q E h=>?_) (λcdv A outer s H vs Q E hr h=>?_)
 ·obtain⟨G,r,b,p,bad,kp,ks,rfl,_⟩:=h;rfl
 ·obtain⟨G,r,b,p,bad,kp,ks,rfl,sm,hR,hks,hall,kk⟩:=h;have hr3:=hr.mono (show 3<=4 by decide);refine a0 _ (c8 (j8 (cO D.expect T.cl hr d6 (pv 0) (c7 (pv 2) d4))) (d7 (y2 (E8 (pv 1)) (d7 (j8 (cO D.refuse T.cl hr3 d6 (pv 0) (c7 (fU T.k6) d4)))) l6))) ?_;refine g9 r rfl (hR.m m4) (a0 _ rfl (L9 G r b p kp ks rfl sm hR hks hall ?_));rw[kU]at kk;rw[L4];by_cases h1:(i9 b p).1=.broken
  ·rw[if_pos h1]at kk⊢;exact kk
  ·rw[if_neg h1]at kk⊢;by_cases h2:(ks.any λk=>y4 k (i9 b p).1)=true
   ·rw[if_pos h2]at kk⊢;refine a0 _ rfl (a0 _ rfl (N9 (λh3=>?_) (λh3=>?_)))
    ·subst h3;exact g9 r rfl (hR.m m3) (bO G r b p 6 rfl sm hR kk)
    ·subst h3;exact kk
   ·rw[if_neg h2]at kk⊢;exact kk
def HB (K:W.Frag):Hp->V->Rat->Prop:=λG v q=>Rq K G v q/\1<=q
def rn (K:W.Frag)(CR CF:Addr):Sp:=λvs H Q E=>∃ (G:Hp) (r:Addr) (b:Bytes) (p:Nat) (c:UInt8),vs=[.ref r,.str (P1 (.m c))]/\c∈U6/\l7 G H/\D1 K CR G H r b p/\PQ K CR CF (Ma.X9 c) (HB K) G H r b p Q E
theorem ow:∀ c∈U6,Ma.K.m c∈dk/\Ma.K.m c∈S5:=by decide +kernel
theorem rF:i6 ["reader","mark","index"] ["reader","mark"] (d8 aM):=⟨rfl,rfl,rfl,by decide +kernel,rfl,by decide +kernel,by decide +kernel⟩
theorem zA {f:Addr}{fd:FuncData}(F:F1 K "read_index" "read_index" aM f fd)(T:Tr K mg CN CF CR)(D:pH w K mg base CR CF)(Dn:B8 prog w K mg base 9 "read_number" ["reader"] (pG K CR CF Ma.C2 (Rq K)))(Db:B8 prog w K mg base 5 "refuse_number_before" ["reader","refused","behind"] (eo K CR CF)) :
  o8 prog w K mg base (A7 prog w) 10 f fd ["reader","mark"] (rn K CR CF):=by
 refine F.okX rF (λvs H Q E h=>?_) (λcdv A outer s H vs Q E hr h=>?_)
 ·obtain⟨G,r,b,p,c,rfl,_⟩:=h;rfl
 ·obtain⟨G,r,b,p,c,rfl,hc,sm,hR,kk⟩:=h;have hr5:=hr.mono (show 5<=9 by decide);have hr6:=hr.mono (show 6<=9 by decide);refine a0 _ (c8 (i7 (i:=2) rF.nd rfl (Or.inl rfl) (d9 Dn hr d6 (c7 (pv 0) d4)))
   (c8 (j8 (d9 Db hr5 d6 (c7 (pv 0) (c7 (V8 jc (px 2 (pv 2)) (px 2 (pv 2)) (n9 _)) (c7 (z9 (c7 (pv 1) d4)) d4)))))
   (c8 (j8 (eK D.step T.cl hr6 d6 (pv 0))) (d7 (j1 (pv 2)))))) ?_
  unfold Ma.X9 at kk;refine a0 _ rfl (q0 G r b p rfl sm hR (kk.bind λq v G1 H1 p1 _ e1 hR1 hv k1=>?_));obtain⟨⟨u,rfl,hu⟩,hsz⟩:=hv;refine a0 _ rfl (m8 u _ _ rfl (e1.sub.seqT hu) rfl (m8 u _ _ rfl (e1.sub.seqT hu) rfl (h9 _ _ rfl rfl (g9 _ rfl (by show 1<=sizeLine;decide) (λl hl=>?_)))));have e2:j6 [] G1 H1 _ _:=(j6.refl e1.sub).lay hl (o:=.tup [.str (P1 (.m c))]);have hR2:=hR1.ext e2 (by simp);have k2:=k1.later (p1:=p1) rfl (e2.up (M:=[r]));refine bM _ r b p1 (decide (q<1)) l ([.m c]) (by rw[<-DP];rfl) e2.sub hR2 (.of c9) (λz hz=>by rw[List.mem_singleton.mp hz];exact(ow c hc).1) (k2.before λ_ hany hbad k3=>?_);have hm:y4 (.m c) (i9 b p1).1=true:=by simpa using hany
  refine g9 r rfl (hR2.m m5) (q0 _ r b p1 rfl e2.sub hR2 (λG3 H3 e3 hR3=>(a0 _ rfl ?_)));have k4:=k3.pass (L0 (ow c hc).2 hm) e3;refine PQ.done e3.sub hR3 k4 ⟨⟨(a0 u rfl (e3.grow.seqT (e2.grow.seqT hu))),hsz⟩,?_⟩;exact Rat.not_lt.mp (of_decide_eq_false hbad)
structure Tq (K:W.Frag)(mg:Str->Option Value):Prop where
 zero_:GT K mg "ZERO" [.int 0,.int 1]
 one_:GT K mg "ONE" [.int 1,.int 1]
theorem nq:Ma.Sz 60 0:=⟨by decide,by decide⟩
theorem EW:Ma.Sz 60 1:=⟨by decide,by decide⟩
theorem rG:i6 ["reader","radius"] ["reader"] (d8 aP):=⟨rfl,rfl,rfl,by decide +kernel,rfl,by decide +kernel,by decide +kernel⟩
theorem zB {f:Addr}{fd:FuncData}(F:F1 K "read_curve" "read_curve" aP f fd)(T:Tr K mg CN CF CR)(Z:Tq K mg)(D:pH w K mg base CR CF)(Dv:B8 prog w K mg base 10 "read_value" ["reader"] (pG K CR CF Ma.X8 (Rq K)))(Db:B8 prog w K mg base 5 "refuse_number_before" ["reader","refused","behind"] (eo K CR CF))(Do:B8 prog w K mg base 3 "over" ["x","y"] (rq K yz λp q=>p/q)) :
  o8 prog w K mg base (A7 prog w) 11 f fd ["reader"] (pG K CR CF Ma.U2 (Rq K)):=by
 refine F.okX rG (λvs H Q E h=>?_) (λcdv A outer s H vs Q E hr h=>?_)
 ·obtain⟨G,r,b,p,rfl,_⟩:=h;rfl
 ·obtain⟨G,r,b,p,rfl,sm,hR,kk⟩:=h;have hr1:=hr.mono (show 1<=10 by decide);have hr3:=hr.mono (show 3<=10 by decide);have hr4:=hr.mono (show 4<=10 by decide);have hr5:=hr.mono (show 5<=10 by decide);have hr6:=hr.mono (show 6<=10 by decide);obtain⟨aZ,mZ,hZ⟩:=Z.zero_;obtain⟨aO,mO,hO⟩:=Z.one_;refine a0 _ (c8 (j8 (cO D.expect T.cl hr4 d6 (pv 0) (c7 (z9 (c7 j9 (c7 j9 (c7 j9 d4)))) d4)))
   (c8 (y2 (E8 (cO D.sees T.cl hr1 d6 (pv 0) (c7 j9 d4))) (c8 (j8 (eK D.step T.cl hr6 d6 (pv 0))) (d7 (j1 (C6 (v:=.ref aZ) (by rfl) mZ rfl)))) l6)
   (c8 (y2 (E8 (cO D.sees T.cl hr1 d6 (pv 0) (c7 j9 d4))) (c8 (j8 (eK D.step T.cl hr6 d6 (pv 0))) (d7 (j1 (d9 Dv hr d6 (c7 (pv 0) d4))))) l6)
   (c8 (j8 (eK D.step T.cl hr6 d6 (pv 0)))
   (c8 (i7 (i:=1) rG.nd rfl (Or.inl rfl) (d9 Dv hr d6 (c7 (pv 0) d4)))
   (c8 (j8 (d9 Db hr5 d6 (c7 (pv 0) (c7 (V8 K2 (px 1 (pv 1)) g8 (n9 _)) (c7 (z9 (c7 j9 (c7 j9 (c7 j9 d4)))) d4)))))
   (d7 (j1 (d9 Do hr3 d6 (c7 (C6 (v:=.ref aO) (by rfl) mO rfl) (c7 (pv 1) d4))))))))))) ?_
  refine M9 r rfl (hR.m m4) (by show 3<=sizeLine;decide) (λq hq=>?_);have e1:j6 [] G H _ _:=(j6.refl sm).lay hq (o:=.tup [.str "flat",.str "curve",.str "radius"]);have hR1:=hR.ext e1 (by simp);replace kk:=kk.later (k:=Ma.U2) (p1:=p) rfl (e1.up (M:=[r]));unfold Ma.U2 at kk;refine L9 _ r b p q ([.w "flat",.w "curve",.w "radius"]) rfl e1.sub hR1 (.of c9) (by decide +kernel) (kk.expect λhb1 hany k1=>?_);replace k1:=k1.sees;generalize i8 G q (.tup [.str "flat",.str "curve",.str "radius"])=G1 at e1 hR1 k1;generalize i8 H q (.tup [.str "flat",.str "curve",.str "radius"])=H1 at e1 hR1 k1;refine g9 r rfl (hR1.m m1) (C1 G1 r b p (.w "flat") rfl (by decide +kernel) e1.sub hR1 (a0 _ rfl (N9 (λhf=>?_) (λhf=>?_))))
  ·rw[hf,if_pos rfl]at k1;refine g9 r rfl (hR1.m m5) (q0 G1 r b p rfl e1.sub hR1 (λG2 H2 e2 hR2=>?_));have k2:=k1.pass (L0 (k:=.w "flat") (by decide +kernel) hf) e2;exact PQ.done (v:=.ref aZ) e2.sub hR2 k2 ⟨(a0 aZ rfl (hZ _)),nq⟩
  rw[hf,if_neg (by decide)]at k1;replace k1:=k1.sees;refine g9 r rfl (hR1.m m1) (C1 G1 r b p (.w "curve") rfl (by decide +kernel) e1.sub hR1 (a0 _ rfl (N9 (λhc=>?_) (λhc=>?_))))
  ·rw[hc,if_pos rfl]at k1;refine g9 r rfl (hR1.m m5) (q0 G1 r b p rfl e1.sub hR1 (λG2 H2 e2 hR2=>?_));have k2:=k1.pass (L0 (k:=.w "curve") (by decide +kernel) hc) e2;exact a0 _ rfl (q0 G2 r b _ rfl e2.sub hR2 k2)
  rw[hc,if_neg (by decide)]at k1;have hrad:y4 (.w "radius") (i9 b p).1=true:=by
   simp only[List.any_cons,List.any_nil,hf,hc,Bool.false_or,Bool.or_false]at hany;exact hany
  refine g9 r rfl (hR1.m m5) (q0 G1 r b p rfl e1.sub hR1 (λG2 H2 e2 hR2=>?_));have k2:=k1.pass (L0 (k:=.w "radius") (by decide +kernel) hrad) e2;refine a0 _ rfl (q0 G2 r b _ rfl e2.sub hR2 (k2.bind λρ v G3 H3 p3 _ e3 hR3 hv k3=>?_));obtain⟨⟨u,rfl,hu⟩,hsz⟩:=hv;refine a0 _ rfl (I0 u _ _ ⟨rfl,e3.sub.seqT hu,rfl,rfl,(by show 3<=sizeLine;decide),λl hl=>?_⟩);have e4:j6 [] G3 H3 _ _:=(j6.refl e3.sub).lay hl (o:=.tup [.str "conic",.str "clear",.str ";"]);have hR4:=hR3.ext e4 (by simp);have k4:=k3.later (p1:=p3) rfl (e4.up (M:=[r]));refine bM _ r b p3 (decide (ρ=0)) l ([.w "conic",.w "clear",.m 59]) (by rw[<-sI];rfl) e4.sub hR4 (.of c9) (by decide +kernel) (k4.before λ_ _ hbad k5=>?_);have h0:ρ≠0:=of_decide_eq_false hbad;refine a0 _ rfl (l4 _ _ _ 1 ρ rfl e4.sub (a0 aO rfl (hO _)) (a0 u rfl (e4.grow.seqT hu)) ⟨EW.mono (by decide),hsz.mono (by decide),h0⟩ (λv6 G6 H6 e6 f6=>?_));exact PQ.done e6.sub (hR4.ext e6 (by simp)) (k5.later rfl e6.up) ⟨f6,S6 hsz h0⟩
theorem yX:i6 ["reader"] ["reader"] (d8 aQ):=⟨rfl,rfl,rfl,by decide +kernel,rfl,by decide +kernel,by decide +kernel⟩
theorem zC {f:Addr}{fd:FuncData}(F:F1 K "read_conic" "read_conic" aQ f fd)(T:Tr K mg CN CF CR)(Z:Tq K mg)(D:pH w K mg base CR CF)(Dv:B8 prog w K mg base 10 "read_value" ["reader"] (pG K CR CF Ma.X8 (Rq K))) :
  o8 prog w K mg base (A7 prog w) 11 f fd ["reader"] (pG K CR CF Ma.Y0 (Rq K)):=by
 refine F.okX yX (λvs H Q E h=>?_) (λcdv A outer s H vs Q E hr h=>?_)
 ·obtain⟨G,r,b,p,rfl,_⟩:=h;rfl
 ·obtain⟨G,r,b,p,rfl,sm,hR,kk⟩:=h;have hr1:=hr.mono (show 1<=10 by decide);have hr6:=hr.mono (show 6<=10 by decide);obtain⟨aZ,mZ,hZ⟩:=Z.zero_;refine a0 _ (c8 (y2 (iQ (E8 (cO D.sees T.cl hr1 d6 (pv 0) (c7 j9 d4)))) (d7 (j1 (C6 (v:=.ref aZ) (by rfl) mZ rfl))) l6)
   (c8 (j8 (eK D.step T.cl hr6 d6 (pv 0))) (d7 (j1 (d9 Dv hr d6 (c7 (pv 0) d4)))))) ?_
  unfold Ma.Y0 at kk;replace kk:=kk.sees;refine g9 r rfl (hR.m m1) (C1 G r b p (.w "conic") rfl (by decide +kernel) sm hR (a0 _ rfl ?_));cases hs:y4 (.w "conic") (i9 b p).1 with
  |false =>
   rw[hs,if_pos rfl]at kk;exact eV (PQ.done (v:=.ref aZ) sm hR kk ⟨(a0 aZ rfl (hZ _)),nq⟩)
  |true =>
   rw[hs,if_neg (by decide)]at kk;refine fW (g9 r rfl (hR.m m5) (q0 G r b p rfl sm hR (λG1 H1 e1 hR1=>?_)));have k1:=kk.pass (L0 (k:=.w "conic") (by decide +kernel) hs) e1;exact a0 _ rfl (q0 G1 r b _ rfl e1.sub hR1 k1)
theorem rH:i6 ["reader","clear"] ["reader"] (d8 aR):=⟨rfl,rfl,rfl,by decide +kernel,rfl,by decide +kernel,by decide +kernel⟩
theorem zE {f:Addr}{fd:FuncData}(F:F1 K "pass_clear" "pass_clear" aR f fd)(T:Tr K mg CN CF CR)(D:pH w K mg base CR CF)(Dn:B8 prog w K mg base 9 "read_number" ["reader"] (pG K CR CF Ma.C2 (Rq K)))(Db:B8 prog w K mg base 5 "refuse_number_before" ["reader","refused","behind"] (eo K CR CF)) :
  o8 prog w K mg base (A7 prog w) 10 f fd ["reader"] (pG K CR CF Ma.L7 (λ_ v _=>v=.non)):=by
 refine F.okX rH (λvs H Q E h=>?_) (λcdv A outer s H vs Q E hr h=>?_)
 ·obtain⟨G,r,b,p,rfl,_⟩:=h;rfl
 ·obtain⟨G,r,b,p,rfl,sm,hR,kk⟩:=h;have hr1:=hr.mono (show 1<=9 by decide);have hr5:=hr.mono (show 5<=9 by decide);have hr6:=hr.mono (show 6<=9 by decide);refine a0 _ (d7 (y2 (E8 (cO D.sees T.cl hr1 d6 (pv 0) (c7 j9 d4)))
   (c8 (j8 (eK D.step T.cl hr6 d6 (pv 0))) (c8 (i7 (i:=1) rH.nd rfl (Or.inl rfl) (d9 Dn hr d6 (c7 (pv 0) d4)))
   (d7 (j8 (d9 Db hr5 d6 (c7 (pv 0) (c7 (V8 K2 (px 1 (pv 1)) g8 (n9 _)) (c7 (z9 (c7 j9 d4)) d4)))))))) l6)) ?_
  unfold Ma.L7 at kk;replace kk:=kk.sees;refine g9 r rfl (hR.m m1) (C1 G r b p (.w "clear") rfl (by decide +kernel) sm hR (a0 _ rfl (N9 (λhs=>?_) (λhs=>?_))))
  ·rw[hs,if_pos rfl]at kk;refine g9 r rfl (hR.m m5) (q0 G r b p rfl sm hR (λG1 H1 e1 hR1=>?_));have k1:=kk.pass (L0 (k:=.w "clear") (by decide +kernel) hs) e1;refine a0 _ rfl (q0 G1 r b _ rfl e1.sub hR1 (k1.bind λρ v G3 H3 p3 _ e3 hR3 hv k3=>?_));obtain⟨⟨u,rfl,hu⟩,hsz⟩:=hv;refine a0 _ rfl (I0 u _ _ ⟨rfl,e3.sub.seqT hu,rfl,rfl,(by show 1<=sizeLine;decide),λl hl=>?_⟩);have e4:j6 [] G3 H3 _ _:=(j6.refl e3.sub).lay hl (o:=.tup [.str ";"]);have hR4:=hR3.ext e4 (by simp);have k4:=k3.later (p1:=p3) rfl (e4.up (M:=[r]));exact bM _ r b p3 (decide (ρ=0)) l ([.m 59]) (by rw[<-sI];rfl) e4.sub hR4 (.of c9) (by decide +kernel) (k4.before λ_ _ _ k5=>PQ.done e4.sub hR4 k5 rfl)
  ·rw[hs,if_neg (by decide)]at kk;exact PQ.done sm hR kk rfl
open Ln (Glass Elem System_ Kind)
noncomputable def key (b:Bytes):List M8:=(B3 b).map Sum.inl
theorem jr (b:Bytes):(key b).map kV=j0 b:=by
 unfold key;rw[List.map_map,M6];rfl
theorem sj {a b:Bytes}(h:key a=key b):a=b:=by
 refine aj ?_;have:=congrArg (List.map kV) h;rw[jr,jr,M6,M6]at this;have key2:∀ {l m:List Int},l.map V.int=m.map V.int->l=m:=by
  intro l
  induction l with
  |nil=>intro m h;cases m with
   |nil=>rfl
   |cons=>cases h
  |cons a l ih=>intro m h;cases m with
   |nil=>cases h
   |cons c m =>
    have:=List.cons.inj h;rw[V.int.inj this.1,ih this.2]
 exact key2 this
def gQ (kvs:List (List M8×V))(ns:List Bytes):Prop:=kvs.map (·.1)=ns.map key
theorem gQ.some_iff:∀ {kvs:List (List M8×V)}{ns:List Bytes},gQ kvs ns->∀ b:Bytes,(V2 kvs (key b)).isSome=ns.any λn=>n==b
 |[],[],_,b=>rfl
 |[],_::_,h,b=>by cases h
 |_::_,[],h,b=>by cases h
 |kv::kvs,n::ns,h,b=>by
  have h':=List.cons.inj (show kv.1::kvs.map (·.1)=key n::ns.map key from h);have ih:=gQ.some_iff (kvs:=kvs) (ns:=ns) h'.2 b;show(V2 (kv::kvs) (key b)).isSome=(n==b||ns.any λn=>n==b);by_cases e:n=b
  ·rw[bQ (by rw[h'.1,e])];simp[e]
  ·rw[bU (λz=>e (sj (h'.1.symm.trans z))),ih];simp[e]
def qM (K:W.Frag)(G:Hp)(v:V)(l:List Rat):Prop:=Tp K (Fr K) G v l
theorem qM.mono {K:W.Frag}{G G':Hp}{v:V}{l:List Rat}(s:l7 G G')(h:qM K G v l):qM K G' v l:=Tp.mono Fr.mono _ _ _ _ s h
def bx (K:W.Frag)(G:Hp)(kvs:List (List M8×V))(gl:List Glass):Prop:=Paired (λ(kv:List M8×V) (g:Glass)=>kv.1=key g.name/\qM K G kv.2 g.index) kvs gl
theorem bx.mono {K:W.Frag}{G G':Hp}{kvs:List (List M8×V)}{gl:List Glass}(s:l7 G G')(h:bx K G kvs gl):bx K G' kvs gl:=Paired.map' (λ_ _ q=>⟨q.1,q.2.mono s⟩) h
theorem bx.keys {K:W.Frag}{G:Hp}:∀ {kvs:List (List M8×V)}{gl:List Glass},bx K G kvs gl->gQ kvs (gl.map (·.name))
 |_,_,.nil=>rfl
 |kv::kvs,g::gl,.cons h t=>by
  have ih:kvs.map (·.1)=(gl.map (·.name)).map key:=bx.keys t;show kv.1::kvs.map (·.1)=key g.name::(gl.map (·.name)).map key;rw[h.1,ih]
theorem bx.len {K:W.Frag}{G:Hp}{kvs:List (List M8×V)}{gl:List Glass}(h:bx K G kvs gl):kvs.length=gl.length:=Paired.length h
theorem bx.find {K:W.Frag}{G:Hp}:∀ {kvs:List (List M8×V)}{gl:List Glass},bx K G kvs gl->∀ b:Bytes,match (gl.map λ(g:Glass)=>g.name).idxOf? b with
  |some i=>∃ v,V2 kvs (key b)=some v/\qM K G v ((gl.map λ(g:Glass)=>g.index).getD i [])
  |none=>V2 kvs (key b)=none
 |_,_,.nil,b=>rfl
 |kv::kvs,g::gl,.cons h t,b=>by
  have ih:=bx.find t b;rw[List.map_cons,List.idxOf?_cons];by_cases e:g.name=b
  ·rw[if_pos (by simpa using e)];refine a0 kv.2 (bQ (by rw[h.1,e])) h.2
  ·rw[if_neg (by simpa using e)];have hv:V2 (kv::kvs) (key b)=V2 kvs (key b):=bU λz=>e (sj (h.1.symm.trans z));rw[hv];cases z:(gl.map λ(g:Glass)=>g.name).idxOf? b with
   |none=>rw[z]at ih;exact ih
   |some i=>rw[z]at ih;exact ih
theorem qo (taken:Bytes->Bool)(b:Bytes)(p:Nat):Ma.J9 taken (Lx b p)=if(i9 b p).1=.broken then .error (1,u0 b p)else match (i9 b p).1 with
  |.name nb=>if taken nb=true then .error (3,u0 b p)else .ok (nb,Lx b (u0 b p+(i9 b p).2))
  |_=>.error (2,u0 b p):=by
 rw[Ma.D8 b p];unfold Ma.J9;dsimp only;cases z:(i9 b p).1 with
 |name nb =>
  have:¬ K1 (Ln.Text.Tok.name nb)=true:=by intro q;cases q
  rw[if_neg this]
 |_=>rfl
theorem xr (gl:List Glass)(b:Bytes)(p:Nat):Ln.Text.glassNamed gl (Lx b p)=if(i9 b p).1=.broken then .error (1,u0 b p)else match (i9 b p).1 with
  |.name nb=>(match (gl.map λ(g:Glass)=>g.name).idxOf? nb with
   |some i=>.ok (i,Lx b (u0 b p+(i9 b p).2))
   |none=>.error (4,u0 b p))
  |_=>.error (2,u0 b p):=by
 unfold Ln.Text.glassNamed;rw[Ma.d5]
 conv=>lhs;rw[Ma.D8 b p,Ma.kz]
 dsimp only;cases z:(i9 b p).1 with
 |name nb =>
  have:¬ K1 (Ln.Text.Tok.name nb)=true:=by intro q;cases q
  have h2:¬ Ln.Text.Tok.name nb=.broken:=by intro q;cases q
  rw[if_neg h2,if_neg this,if_neg h2];dsimp only;cases(gl.map λ(g:Glass)=>g.name).idxOf? nb<;>rfl
 |broken=>rfl
 |_=>rfl
theorem rV {b:Bytes}{p:Nat}{nb:Bytes}(h:(i9 b p).1=.name nb):iZ b p=nb:=(Ma.qi (c:=b.drop (u0 b p)) h).1
theorem kI {t:Ln.Text.Tok}(h:y4 .name t=true):∃ nb,t=.name nb:=by
 cases t with
 |name nb=>exact l9 nb rfl
 |num n k p=>cases p<;>cases h
 |_=>cases h
structure Tn (K:W.Frag)(mg:Str->Option Value)(CN CF CR:Addr):Prop extends Tr K mg CN CF CR where
 tuple_:mg "tuple"=none
def Bt (G:Hp)(v:V)(b:Bytes):Prop:=∃ t,v=.ref t/\G t=some (.tup (j0 b))
theorem M7.ne {G H:Hp}{p q:Addr}{o u:HO}(a:M7 G H p o)(b:M7 G H q u)(h:o≠u):p≠q:=Be a.at_ b.at_ h
theorem D1.nd {G H:Hp}{r d:Addr}{b:Bytes}{p:Nat}{kvs:List (List M8×V)}(h:D1 K CR G H r b p)(o:M7 G H d (.dT kvs)):d≠r:=by
 obtain⟨_,dx,t,tk,ho,_,_⟩:=h;exact M7.ne o ho (by intro z;cases z)
def fM (K:W.Frag)(CR CF:Addr):Sp:=λvs H Q E=>∃ (G:Hp) (r:Addr) (b:Bytes) (p:Nat) (d:Addr) (kvs:List (List M8×V)) (ns:List Bytes),vs=[.ref r,.ref d]/\l7 G H/\D1 K CR G H r b p/\M7 G H d (.dT kvs)/\gQ kvs ns/\PQ K CR CF (Ma.J9 λb=>ns.any λn=>n==b) Bt G H r b p Q E
theorem BN:i6 ["reader","names"] ["reader","names"] (d8 Q4):=⟨rfl,rfl,rfl,by decide +kernel,rfl,by decide +kernel,by decide +kernel⟩
theorem CG {f:Addr}{fd:FuncData}(F:F1 K "read_new_name" "read_new_name" Q4 f fd)(T:Tn K mg CN CF CR)(D:pH w K mg base CR CF):o8 prog w K mg base (A7 prog w) 8 f fd ["reader","names"] (fM K CR CF):=by
 refine F.okX BN (λvs H Q E h=>?_) (λcdv A outer s H vs Q E hr h=>?_)
 ·obtain⟨G,r,b,p,d,kvs,ns,rfl,_⟩:=h;rfl
 ·obtain⟨G,r,b,p,d,kvs,ns,rfl,sm,hR,ho,hk,kk⟩:=h;have hr1:=hr.mono (show 1<=7 by decide);have hr3:=hr.mono (show 3<=7 by decide);have hr4:=hr.mono (show 4<=7 by decide);have hu:=sA hr;refine a0 _ (c8 (j8 (cO D.expect T.cl hr4 d6 (pv 0) (c7 (z9 (c7 j9 d4)) d4)))
   (c8 (y2 (wK (Ci hu (S3 L5 (by rfl) T.tuple_ boot_tuple (c7 (eK D.piece T.cl hr1 d6 (pv 0)) d4)) (pv 1))) (d7 (j8 (cO D.refuse T.cl hr3 d6 (pv 0) (c7 (fU T.k3) d4)))) l6)
   (d7 (j1 (S3 L5 (by rfl) T.tuple_ boot_tuple (c7 (cO D.take T.cl hr d6 (pv 0) (c7 j9 d4)) d4)))))) ?_
  refine M9 r rfl (hR.m m4) (by show 1<=sizeLine;decide) (λq hq=>?_);have e1:j6 [] G H _ _:=(j6.refl sm).lay hq (o:=.tup [.str "name"]);have hR1:=hR.ext e1 (by simp);have ho1:=ho.ext e1 (by simp);replace kk:=kk.later (k:=Ma.J9 λb=>ns.any λn=>n==b) (p1:=p) rfl (e1.up (M:=[r]));refine L9 _ r b p q ([.name]) rfl e1.sub hR1 (.of c9) (by decide +kernel) ?_;generalize i8 G q (.tup [.str "name"])=G1 at e1 hR1 ho1 kk;generalize i8 H q (.tup [.str "name"])=H1 at e1 hR1 ho1 kk;unfold PQ at kk;rw[qo]at kk;rw[L4];by_cases hb:(i9 b p).1=.broken
  ·rw[if_pos hb]at kk⊢;exact kk
  rw[if_neg hb]at kk⊢;have ea:([Ma.K.name].any λk=>y4 k (i9 b p).1)=y4 .name (i9 b p).1:=by simp
  rw[ea];cases hz:y4 .name (i9 b p).1 with
  |false =>
   rw[if_neg (by decide)];cases ht:(i9 b p).1 with
   |name nb=>rw[ht]at hz;cases hz
   |_=>rw[ht]at kk;exact kk
  |true =>
  rw[if_pos rfl];obtain⟨nb,ht⟩:=kI hz;rw[ht]at kk;dsimp only at kk;have hpc:=rV ht;refine g9 r rfl (hR1.m m2) (q0 G1 r b p rfl e1.sub hR1 (λv G2 H2 e2 hv=>?_));rw[hpc]at hv;obtain⟨u,rfl,hu2⟩:=hv;refine J0 u _ rfl (.inl ⟨C9.of (e2.sub _ _ hu2),λl hl=>?_⟩);have e3:=e2.lay hl (o:=.tup (j0 nb));have hR3:=hR1.ext e3 (by simp);have ho3:=ho1.ext e3 (by simp);refine a0 _ rfl (h9 d _ rfl (gU.t (k:=key nb) ho3.at_ (by rw[jr];exact c9)) (a0 _ rfl ?_));rw[hk.some_iff nb];refine N9 (λhin=>?_) (λhin=>?_)
  ·rw[hin,if_pos rfl]at kk;exact g9 r rfl (hR3.m m3) (bO _ r b p 3 rfl e3.sub hR3 kk)
  ·rw[hin,if_neg (by decide)]at kk;refine g9 r rfl (hR3.m m6) (C1 _ r b p .name rfl e3.sub hR3 (by decide +kernel) ?_);rw[Z1 .name b p (O2 (by decide +kernel)),if_neg hb,hz,if_pos rfl];intro v4 G4 H4 e4 hR4 hv4;rw[hpc]at hv4;obtain⟨u4,rfl,hu4⟩:=hv4;refine J0 u4 _ rfl (.inl ⟨C9.of (e4.sub _ _ hu4),λl5 hl5=>?_⟩);have e5:=e4.lay hl5 (o:=.tup (j0 nb));have e15:j6 [r] G1 H1 _ _:=(e3.up (M:=[r])).trans e5;have e45:j6 [] G4 H4 _ _:=(j6.refl e4.sub).lay hl5 (o:=.tup (j0 nb));exact kk _ _ _ _ rfl e15 (hR4.ext e45 (by simp)) (a0 l5 rfl c9)
def lC (K:W.Frag)(CR CF:Addr):Sp:=λvs H Q E=>∃ (G:Hp) (r:Addr) (b:Bytes) (p:Nat) (d:Addr) (kvs:List (List M8×V)) (gl:List Glass),vs=[.ref r,.ref d]/\l7 G H/\D1 K CR G H r b p/\M7 G H d (.dT kvs)/\bx K G kvs gl/\PQ K CR CF (Ln.Text.glassNamed gl) (λG v m=>qM K G v ((gl.map λ(g:Glass)=>g.index).getD m [])) G H r b p Q E
theorem BO:i6 ["reader","glasses"] ["reader","glasses"] (d8 M5):=⟨rfl,rfl,rfl,by decide +kernel,rfl,by decide +kernel,by decide +kernel⟩
theorem CH {f:Addr}{fd:FuncData}(F:F1 K "read_known_glass" "read_known_glass" M5 f fd)(T:Tn K mg CN CF CR)(D:pH w K mg base CR CF):o8 prog w K mg base (A7 prog w) 8 f fd ["reader","glasses"] (lC K CR CF):=by
 refine F.okX BO (λvs H Q E h=>?_) (λcdv A outer s H vs Q E hr h=>?_)
 ·obtain⟨G,r,b,p,d,kvs,ns,rfl,_⟩:=h;rfl
 ·obtain⟨G,r,b,p,d,kvs,gl,rfl,sm,hR,ho,hk,kk⟩:=h;have hr1:=hr.mono (show 1<=7 by decide);have hr3:=hr.mono (show 3<=7 by decide);have hr4:=hr.mono (show 4<=7 by decide);have hu:=sA hr;refine a0 _ (c8 (j8 (cO D.expect T.cl hr4 d6 (pv 0) (c7 (z9 (c7 j9 d4)) d4)))
   (c8 (y2 (wK (tZ hu (S3 L5 (by rfl) T.tuple_ boot_tuple (c7 (eK D.piece T.cl hr1 d6 (pv 0)) d4)) (pv 1))) (d7 (j8 (cO D.refuse T.cl hr3 d6 (pv 0) (c7 (fU T.k4) d4)))) l6)
   (d7 (j1 (zl hu (pv 1) (S3 L5 (by rfl) T.tuple_ boot_tuple (c7 (cO D.take T.cl hr d6 (pv 0) (c7 j9 d4)) d4)) (λ_ _=>rfl)))))) ?_
  refine M9 r rfl (hR.m m4) (by show 1<=sizeLine;decide) (λq hq=>?_);have e1:j6 [] G H _ _:=(j6.refl sm).lay hq (o:=.tup [.str "name"]);have hR1:=hR.ext e1 (by simp);have ho1:=ho.ext e1 (by simp);have hk1:=hk.mono e1.grow;replace kk:=kk.later (k:=Ln.Text.glassNamed gl) (p1:=p) rfl (e1.up (M:=[r]));refine L9 _ r b p q ([.name]) rfl e1.sub hR1 (.of c9) (by decide +kernel) ?_;generalize i8 G q (.tup [.str "name"])=G1 at e1 hR1 ho1 hk1 kk;generalize i8 H q (.tup [.str "name"])=H1 at e1 hR1 ho1 kk;unfold PQ at kk;rw[xr]at kk;rw[L4];by_cases hb:(i9 b p).1=.broken
  ·rw[if_pos hb]at kk⊢;exact kk
  rw[if_neg hb]at kk⊢;have ea:([Ma.K.name].any λk=>y4 k (i9 b p).1)=y4 .name (i9 b p).1:=by simp
  rw[ea];cases hz:y4 .name (i9 b p).1 with
  |false =>
   rw[if_neg (by decide)];cases ht:(i9 b p).1 with
   |name nb=>rw[ht]at hz;cases hz
   |_=>rw[ht]at kk;exact kk
  |true =>
  rw[if_pos rfl];obtain⟨nb,ht⟩:=kI hz;rw[ht]at kk;dsimp only at kk;have hpc:=rV ht;have hfind:=hk1.find nb;refine g9 r rfl (hR1.m m2) (q0 G1 r b p rfl e1.sub hR1 (λv G2 H2 e2 hv=>?_));rw[hpc]at hv;obtain⟨u,rfl,hu2⟩:=hv;refine J0 u _ rfl (.inl ⟨C9.of (e2.sub _ _ hu2),λl hl=>?_⟩);have e3:=e2.lay hl (o:=.tup (j0 nb));have hR3:=hR1.ext e3 (by simp);have ho3:=ho1.ext e3 (by simp);refine a0 _ rfl (h9 d _ rfl (gU.t (k:=key nb) ho3.at_ (by rw[jr];exact c9)) (a0 _ rfl ?_));cases hx:(gl.map λ(g:Glass)=>g.name).idxOf? nb with
  |none =>
   rw[hx]at hfind kk;dsimp only at hfind kk;rw[hfind];exact eV (g9 r rfl (hR3.m m3) (bO _ r b p 4 rfl e3.sub hR3 kk))
  |some i =>
   rw[hx]at hfind kk;dsimp only at hfind kk;obtain⟨val,hval,htri⟩:=hfind;rw[hval];refine fW (a0 _ rfl (g9 r rfl (hR3.m m6) (C1 _ r b p .name rfl e3.sub hR3 (by decide +kernel) ?_)));rw[Z1 .name b p (O2 (by decide +kernel)),if_neg hb,hz,if_pos rfl];intro v4 G4 H4 e4 hR4 hv4;rw[hpc]at hv4;obtain⟨u4,rfl,hu4⟩:=hv4;refine J0 u4 _ rfl (.inl ⟨C9.of (e4.sub _ _ hu4),λl5 hl5=>?_⟩);have e5:=e4.lay hl5 (o:=.tup (j0 nb));have e15:j6 [r] G1 H1 _ _:=(e3.up (M:=[r])).trans e5;have e45:j6 [] G4 H4 _ _:=(j6.refl e4.sub).lay hl5 (o:=.tup (j0 nb));have ndr:d∉[r]:=by simpa using hR1.nd ho1
   have ho5:=ho1.ext e15 ndr;refine h9 d val rfl ?_ (kk _ _ _ _ rfl e15 (hR4.ext e45 (by simp)) (htri.mono e15.grow));have:=gU.t (k:=key nb) ho5.at_ (b:=l5) (by rw[jr];exact c9);rw[hval]at this;exact this
open Ma (cI)
section
variable {K:W.Frag}{CR CF:Addr}{α β:Type}{G H:Hp}{r:Addr}{b:Bytes}{p:Nat}{E:XK}{C:β->Nat->Prop}
def PK (CF:Addr)(m:P β)(C:β->Nat->Prop)(b:Bytes)(p:Nat)(E:XK):Prop:=match m (Lx b p)with
 |.ok (a,l')=>∀ p',l'=Lx b p'->C a p'
 |.error e=>ee CF E e
theorem PK.later {m k:P β}{p1:Nat}(h:PK CF m C b p E)(hm:m (Lx b p)=k (Lx b p1)):PK CF k C b p1 E:=by
 unfold PK at h⊢;rw[hm]at h;exact h
theorem PK.call {m:P α}{k:α->P β}{R1:Hp->V->α->Prop}{Q1:VK}(h:PK CF (m >>= k) C b p E)
  (cont:∀ a v G1 H1 p1,m (Lx b p)=.ok (a,Lx b p1)->j6 [r] G H G1 H1->D1 K CR G1 H1 r b p1->R1 G1 v a->PK CF (k a) C b p1 E->Q1 v H1):PQ K CR CF m R1 G H r b p Q1 E:=by
 have hb:=Ma.d5 m k (Lx b p);unfold PQ;cases z:m (Lx b p)with
 |error e =>
  rw[z]at hb;unfold PK at h;rw[hb]at h;exact h
 |ok x =>
  obtain⟨a,l'⟩:=x;rw[z]at hb;intro v G' H' p' hl e hR hr;have hl':l'=Lx b p':=hl;subst hl';exact cont a v G' H' p' z e hR hr (h.later hb)
theorem PK.done {a:β}(h:PK CF (pure a) C b p E):C a p:=h p rfl
theorem PK.take {k:Ma.K}{f:Ln.Text.Tok->P β}{Q1:VK}(hk:k∈S5)(h:PK CF (Ma.A4 k >>= f) C b p E)
  (cont:∀ v G1 H1,y4 k (i9 b p).1=true->j6 [r] G H G1 H1->D1 K CR G1 H1 r b (u0 b p+(i9 b p).2)->Bl G1 v (iZ b p)->PK CF (f (i9 b p).1) C b (u0 b p+(i9 b p).2) E->Q1 v H1):match Ma.A4 k (Lx b p)with
   |.ok _=>∀ v G' H',j6 [r] G H G' H'->D1 K CR G' H' r b (u0 b p+(i9 b p).2)->Bl G' v (iZ b p)->Q1 v H'
   |.error e=>ee CF E e:=by
 have hb:=Ma.d5 (Ma.A4 k) f (Lx b p);have ha:=Z1 k b p (O2 hk);by_cases h1:(i9 b p).1=.broken
 ·rw[if_pos h1]at ha;rw[ha]at hb⊢;unfold PK at h;rw[hb]at h;exact h
 ·rw[if_neg h1]at ha;by_cases h2:y4 k (i9 b p).1=true
  ·rw[if_pos h2]at ha;rw[ha]at hb⊢;exact λv G' H' e hR hv=>cont v G' H' h2 e hR hv (h.later hb)
  ·rw[if_neg h2]at ha;rw[ha]at hb⊢;unfold PK at h;rw[hb]at h;exact h
theorem PK.pass {f:Unit->P β}(hn:K1 (i9 b p).1=false)(h:PK CF (Ln.Text.pass >>= f) C b p E):PK CF (f ()) C b (u0 b p+(i9 b p).2) E:=by
 refine h.later ?_;rw[Ma.d5,Ma.E9];dsimp only;rw[Ma.D8 b p,hn,if_neg (by decide)];rfl
theorem PK.refuse {n:Nat}(h:PK CF (Ma.refuse n:P β) C b p E):ee CF E (n,u0 b p):=by
 unfold PK at h;have e:(Ma.refuse n:P β) (Lx b p)=.error (n,u0 b p):=by rw[Ma.D8];rfl
 rw[e]at h;exact h
end
theorem jh {taken:Bytes->Bool}{l l':List Lex}{nb:Bytes}(h:Ma.J9 taken l=.ok (nb,l')):taken nb=false:=by
 unfold Ma.J9 at h;split at h
 ·split at h
  ·cases h
  ·split at h
   ·split at h
    ·cases h
    ·rename_i hf
     cases h;simpa using hf
   ·cases h
 ·cases h
noncomputable def GF (n:Bytes):List UInt8->List Rat->P Glass
 |[],acc=>pure ⟨n,acc⟩
 |m::ms,acc=>Ma.X9 m >>= λq=>GF n ms (acc++[q])
noncomputable def U8:List UInt8:=[44,44,59]
theorem Ec:∀ c∈U8,c∈U6:=by decide +kernel
theorem qh (l:List Glass)(hl:l.length≠64):Ma.bf l=(Ln.Text.pass >>= λ_=>Ma.J9 (Ma.iz l) >>= λn=>Ma.A4 (.m 58) >>= λ_=>GF n U8 []):=by
 unfold Ma.bf;rw[if_neg hl];rfl
theorem tG (gl:List Glass):Ma.iz gl=λb=>(gl.map (·.name)).any λn=>n==b:=by
 funext b
 unfold Ma.iz;rw[List.any_map];rfl
def ro (K:W.Frag)(CR CF:Addr):Sp:=λvs H Q E=>∃ (G:Hp) (r:Addr) (b:Bytes) (p:Nat) (d:Addr) (kvs:List (List M8×V)) (gl:List Glass),vs=[.ref r,.ref d]/\l7 G H/\D1 K CR G H r b p/\M7 G H d (.dT kvs)/\bx K G kvs gl/\cI gl/\gl.length<=64/\y4 (.w "glass") (i9 b p).1=true /\
 PK CF (Ma.bf gl) (λg p'=>gl.length<64->∀ G' H' kvs',j6 [r,d] G H G' H'->D1 K CR G' H' r b p'->M7 G' H' d (.dT kvs')->bx K G' kvs' (gl++[g])->cI (gl++[g])->Q .non H') b p E
theorem lK:i6 ["reader","glasses","name","indices","mark"] ["reader","glasses"] (d8 aN):=⟨rfl,rfl,rfl,by decide +kernel,rfl,by decide +kernel,by decide +kernel⟩
theorem j6.two {r d:Addr}{G H G1 H1:Hp}(e:j6 [r] G H G1 H1):j6 [r,d] G H G1 H1:=e.mono λb hb=>by rw[List.mem_singleton.mp hb];simp
theorem CJ {f:Addr}{fd:FuncData}(F:F1 K "read_glass" "read_glass" aN f fd)(T:Tn K mg CN CF CR)(D:pH w K mg base CR CF)(Dn:B8 prog w K mg base 8 "read_new_name" ["reader","names"] (fM K CR CF))(Di:B8 prog w K mg base 10 "read_index" ["reader","mark"] (rn K CR CF)) :
  o8 prog w K mg base (A7 prog w) 11 f fd ["reader","glasses"] (ro K CR CF):=by
 refine F.okX lK (λvs H Q E h=>?_) (λcdv A outer s H vs Q E hr h=>?_)
 ·obtain⟨G,r,b,p,d,kvs,gl,rfl,_⟩:=h;rfl
 ·obtain⟨G,r,b,p,d,kvs,gl,rfl,sm,hR,ho,hg,hok,hle,hgl,kk⟩:=h;have hr3:=hr.mono (show 3<=10 by decide);have hr6:=hr.mono (show 6<=10 by decide);have hr7:=hr.mono (show 7<=10 by decide);have hr8:=hr.mono (show 8<=10 by decide);have hu:=sA hr;refine a0 _ (c8 (y2 (m9 K2 (A6 kO (by rfl) T.len_ boot_len (c7 (pv 1) d4)) (fU T.most64_) (n9 _)) (d7 (j8 (cO D.refuse T.cl hr3 d6 (pv 0) (c7 (fU T.k5) d4)))) l6)
   (c8 (j8 (eK D.step T.cl hr6 d6 (pv 0)))
   (c8 (i7 (i:=2) lK.nd rfl (Or.inl rfl) (d9 Dn hr8 d6 (c7 (pv 0) (c7 (pv 1) d4))))
   (c8 (j8 (cO D.take T.cl hr7 d6 (pv 0) (c7 j9 d4)))
   (c8 (i7 (i:=3) lK.nd rfl (Or.inl rfl) (C5 d4))
   (c8 (Q8 J3 rfl (wM (z9 (c7 j9 (c7 j9 (c7 j9 d4))))) (y9 (i:=4) lK.nd rfl (Or.inl rfl)) (d7 (j8 (kl PySem.F.plainAttrs_list PySem.F.slot_list_append PySem.F.type_list_append Z8 (pv 3) (c7 (d9 Di hr d6 (c7 (pv 0) (c7 (pv 4) d4))) d4)))))
   (d7 (rN hu (pv 1) (pv 2) (S3 L5 (by rfl) T.tuple_ boot_tuple (c7 (pv 3) d4)) rfl)))))))) ?_
  have ndr:d≠r:=hR.nd ho;refine a0 _ rfl (i3 d _ rfl ho.at_ rfl (a0 _ rfl (N5 (λh1=>?_) (λh1=>?_))))
  ·rw[hg.len]at h1;unfold Ma.bf at kk;rw[if_pos (by omega)]at kk;exact g9 r rfl (hR.m m3) (bO G r b p 5 rfl sm hR kk.refuse)
  have h1':gl.length≠64:=by rw[hg.len]at h1;omega
  rw[qh gl h1']at kk;refine g9 r rfl (hR.m m5) (q0 G r b p rfl sm hR (λG1 H1 e1 hR1=>?_));have k1:=kk.pass (L0 (k:=.w "glass") (by decide +kernel) hgl);have ho1:=ho.ext e1 (by simpa using ndr);have hg1:=hg.mono e1.grow;rw[tG]at k1;refine a0 _ rfl (a0 _ rfl (bM G1 r b _ d kvs (gl.map (·.name)) rfl e1.sub hR1 ho1 hg1.keys (k1.call λnb v G2 H2 p2 hm2 e2 hR2 hv k2=>?_)));obtain⟨tn,rfl,htn⟩:=hv;have e12:=e1.trans e2;have ho2:=ho.ext e12 (by simpa using ndr);refine g9 r rfl (hR2.m m6) (C1 G2 r b p2 (.m 58) rfl e2.sub hR2 (by decide +kernel) (k2.take (by decide +kernel) λv3 G3 H3 _ e3 hR3 _ k3=>?_));have e13:=e12.trans e3;refine⟨(by show 0<=sizeLine;decide),λL hL=>?_⟩;have hL0:H L=none:=e13.none_of hL;have e4:=e13.lend hL (o:=.lst []);have e34:j6 [] G3 H3 G3 (i8 H3 L (.lst [])):=(j6.refl e3.sub).lend hL;have hR4:=hR3.ext e34 (by simp);have oL:M7 G3 (i8 H3 L (.lst [])) L (.lst []):=M7.new e3.sub hL;refine⟨(by show 3<=sizeLine;decide),λt0 ht0=>?_⟩;have e5:=e4.lay ht0 (o:=.tup [.str ",",.str ",",.str ";"]);have e45:j6 [] G3 (i8 H3 L (.lst [])) _ _:=(j6.refl e34.sub).lay ht0 (o:=.tup [.str ",",.str ",",.str ";"]);have hR5:=hR4.ext e45 (by simp);have oL5:=oL.ext e45 (by simp);have hT0:i8 G3 t0 (.tup [.str ",",.str ",",.str ";"]) t0=some (.tup [.str ",",.str ",",.str ";"]):=c9;have htn5:i8 G3 t0 (.tup [.str ",",.str ",",.str ";"]) tn=some (.tup (j0 nb)):=e45.grow _ _ (e3.grow _ _ htn);generalize i8 G3 t0 (.tup [.str ",",.str ",",.str ";"])=G5 at e5 e45 hR5 oL5 hT0 htn5;generalize i8 (i8 H3 L (.lst [])) t0 (.tup [.str ",",.str ",",.str ";"])=H5 at e5 e45 hR5 oL5;have xs3:(U8.map λc=>V.str (P1 (.m c)))=[.str ",",.str ",",.str ";"]:=by rfl
  refine g9 t0 rfl (l9 _ (W2.of (e5.sub _ _ hT0))) (sE (K:=K) (a:=t0) (xs:=U8.map λc=>V.str (P1 (.m c)))
   (λi σ H'=>∃ (G':Hp) (p':Nat) (r4:Option V) (vs:List V) (qs:List Rat),σ=[some (.ref r),some (.ref d),some (.ref tn),some (.ref L),r4]/\j6 [r] G H G' H'/\l7 G5 G'/\D1 K CR G' H' r b p'/\M7 G' H' L (.lst vs)/\Paired (Fr K G') vs qs/\(∀ q∈qs,1<=q/\Ma.Sz 60 q)/\qs.length=i/\PK CF (GF nb (U8.drop i) qs) (λg p'=>gl.length<64->∀ G' H' kvs',j6 [r,d] G H G' H'->D1 K CR G' H' r b p'->M7 G' H' d (.dT kvs')->bx K G' kvs' (gl++[g])->cI (gl++[g])->Q .non H') b p' E)
   (p9 G5 _ none ([]) ([]) ⟨rfl,e5,l7.refl _,hR5,oL5,.nil,(by simp),rfl,k3⟩) (λi σ H' _ h0=>by obtain⟨G',_,_,_,_,_,e,s5,_⟩:=h0;exact W2.of (e.sub _ _ (s5 _ _ (by rw[xs3];exact hT0)))) ?_ ?_)
  ·rintro i x σ H' hx ⟨G',p',r4,vs,qs,rfl,e6,s5,hR6,oL6,hp6,hq6,hl6,k6⟩;rw[List.getElem?_map]at hx;obtain⟨c,hc,rfl⟩:∃ c,U8[i]?=some c/\x=V.str (P1 (.m c)):=by
    cases q:U8[i]? with
    |none=>rw[q]at hx;cases hx
    |some x=>rw[q]at hx;exact a0 x rfl ((Option.some.inj hx).symm)
   have hcm:c∈U6:=Ec c (List.mem_of_getElem? hc);have hdr:U8.drop i=c::U8.drop (i+1):=by
    obtain⟨hi,hic⟩:=List.getElem?_eq_some_iff.mp hc;rw[List.drop_eq_getElem_cons hi,hic]
   rw[hdr]at k6;have hir:L≠r:=λz=>by
    obtain⟨_,dx,t,tk,ho',_,_⟩:=hR6;rw[z]at oL6;have:=oL6.at_.symm.trans ho'.at_;cases this
   refine g9 _ rfl (.inl ⟨rfl,l9 _ (C9.of oL6.at_)⟩) (a0 _ rfl (a0 _ rfl (C1 G' r b p' c rfl hcm e6.sub hR6 (PK.call (C:=_) k6 λq v G7 H7 p7 _ e7 hR7 hv k7=>?_))));have oL7:=oL6.ext e7 (by simpa using hir);have hll:vs.length<=3:=by
    have h1:=Paired.length hp6;have:i<U8.length:=(List.getElem?_eq_some_iff.mp hc).1;have h3:U8.length=3:=rfl;omega
   refine z8 L _ _ rfl rfl oL7.at_ (Nat.lt_of_le_of_lt hll (by decide)) ?_;have e67:=e6.trans e7;have e8:=e67.put (.inl hL0) oL7.fr (o:=.lst (vs++[v]));have e78:j6 [L] G7 H7 G7 (i8 H7 L (.lst (vs++[v]))):=(j6.refl e7.sub).put (.inr (by simp)) oL7.fr;refine p9 G7 p7 _ (vs++[v]) (qs++[q]) ⟨rfl,e8,s5.trans e7.grow,hR7.ext e78 (by simpa using λz=>hir z.symm),oL7.put,Paired.snoc (Paired.map' (λ_ _ z=>Fr.mono _ _ _ _ e7.grow z) hp6) hv.1.1,?_,?_,k7⟩
   ·intro q' hq';rcases List.mem_append.mp hq' with z|z
    ·exact hq6 q' z
    ·rw[List.mem_singleton.mp z];exact⟨hv.2,hv.1.2⟩
   ·rw[List.length_append,hl6];rfl
  ·rintro σ H' ⟨G',p',r4,vs,qs,rfl,e6,s5,hR6,oL6,hp6,hq6,hl6,k6⟩;have hl3:qs.length=3:=hl6;have k7:=(show PK CF (pure (⟨nb,qs⟩:Glass)) _ b p' E from k6).done;refine a0 _ rfl (J0 L vs rfl (.inl ⟨C9.of oL6.at_,λl hl=>?_⟩));have e7:=e6.lay hl (o:=.tup vs);have e67:j6 [] G' H' _ _:=(j6.refl e6.sub).lay hl (o:=.tup vs);have hR7:=hR6.ext e67 (by simp);have ho7:=ho.ext e7 (by simpa using ndr);have htn7:i8 H' l (.tup vs) tn=some (.tup ((key nb).map kV)):=by rw[jr];exact e7.sub _ _ (e67.grow _ _ (s5 _ _ htn5))
   have hnt:V2 kvs (key nb)=none:=by
    have h2:=jh hm2;have h3:=(hg.keys).some_iff nb;rw[h2]at h3;cases z:V2 kvs (key nb)with
    |none=>rfl
    |some x=>rw[z]at h3;cases h3
   have hlt:gl.length<64:=by omega
   refine a0 _ rfl (a0 _ rfl (h9 d _ rfl (uT.t (k:=key nb) ho7.at_ htn7 ?_) ?_))
   ·rw[hg.len];exact Nat.lt_of_lt_of_le hlt (by decide)
   ·rw[nH _ hnt];have e8:j6 [r,d] G H _ (i8 (i8 H' l (.tup vs)) d (.dT (kvs++[(key nb,.ref l)]))):=(j6.two e7).put (.inr (by simp)) ho7.fr;have hR8:=hR7.ext (M:=[d]) ((j6.refl e67.sub).put (.inr (by simp)) ho7.fr (o:=.dT (kvs++[(key nb,.ref l)]))) (by simpa using λz=>ndr z.symm);refine k7 hlt _ _ _ e8 hR8 ⟨c9,ho7.fr⟩ (Paired.snoc ((hg.mono e7.grow)) ⟨rfl,h9 l vs rfl (.of c9) (Paired.map' (λ_ _ z=>Fr.mono _ _ _ _ e67.grow z) hp6)⟩) ?_;intro g hgm;rcases List.mem_append.mp hgm with z|z
    ·exact hok g z
    ·rw[List.mem_singleton.mp z];exact⟨hl3,hq6⟩
open Ln.Text (FUEL)
section
variable {β:Type}{CF:Addr}{b:Bytes}{p:Nat}{E:XK}{C:β->Nat->Prop}
theorem jQ (hg:y4 (.w "glass") (i9 b p).1=true):(Ln.Text.glass [] >>= λg=>Ln.Text.glasses FUEL [g]) (Lx b p)=Ln.Text.glasses (FUEL+1) [] (Lx b p):=by
 have hb:¬ (i9 b p).1=.broken:=λz=>by rw[z]at hg;cases hg
 conv=>rhs;rw[Ma.D8 b p,Ma.bj _ _ _ _ hb,if_pos hg,<-Ma.D8 b p]
 rfl
theorem qB {f:Nat}{gl:List Glass}{k:List Glass->P β}(hl:gl.length<=64)(hg:y4 (.w "glass") (i9 b p).1=true)(h:PK CF (Ln.Text.glasses (f+1) gl >>= k) C b p E):PK CF (Ma.bf gl >>= λg=>Ln.Text.glasses f (gl++[g]) >>= k) C b p E:=by
 have hb:¬ (i9 b p).1=.broken:=λz=>by rw[z]at hg;cases hg
 refine h.later ?_;rw[Ma.d5,Ma.d5]
 conv=>lhs;rw[Ma.D8 b p,Ma.bj _ _ _ _ hb,if_pos hg,Ma.d5]
 conv=>rhs;rw[Ma.D8 b p,Ma.xZ gl hl _ _ hg]
 cases Ln.Text.glass gl (⟨u0 b p,(i9 b p).1⟩::(if K1 (i9 b p).1=true then[]else Lx b (u0 b p+(i9 b p).2)))with
 |error e=>rfl
 |ok x=>exact(Ma.d5 _ _ _).symm
theorem gH {f:Nat}{gl:List Glass}{k:List Glass->P β}(hb:¬ (i9 b p).1=.broken)(hg:y4 (.w "glass") (i9 b p).1=false)(h:PK CF (Ln.Text.glasses (f+1) gl >>= k) C b p E):PK CF (k gl) C b p E:=by
 refine h.later ?_;rw[Ma.d5]
 conv=>lhs;rw[Ma.D8 b p,Ma.bj _ _ _ _ hb,hg,if_neg (by decide),<-Ma.D8 b p]
theorem jt {f:Nat}{gl:List Glass}{k:List Glass->P β}{Q1:Prop}(h:PK CF (Ln.Text.glasses (f+1) gl >>= λl=>Ma.A4 (.w "start") >>= λ_=>k l) C b p E)
  (cont:(i9 b p).1≠.broken->([Ma.K.w "glass",Ma.K.w "start"].any λk=>y4 k (i9 b p).1)=true->Q1):match Ma.expect [.w "glass",.w "start"] (Lx b p)with
   |.ok _=>Q1
   |.error e=>ee CF E e:=by
 rw[L4];by_cases hb:(i9 b p).1=.broken
 ·rw[if_pos hb];unfold PK at h;have e:(Ln.Text.glasses (f+1) gl >>= λl=>Ma.A4 (.w "start") >>= λ_=>k l) (Lx b p)=.error (1,u0 b p):=by
   rw[Ma.d5,Ma.D8 b p];have:Ln.Text.glasses (f+1) gl (⟨u0 b p,(i9 b p).1⟩::(if K1 (i9 b p).1=true then[]else Lx b (u0 b p+(i9 b p).2)))=.error (1,u0 b p):=by
    show(Ln.Text.isWordNext "glass" >>= _) _=_;rw[Ma.d5,Ma.A5,if_pos hb]
   rw[this]
  rw[e]at h;exact h
 ·rw[if_neg hb];cases hz:[Ma.K.w "glass",Ma.K.w "start"].any λk=>y4 k (i9 b p).1 with
  |true=>rw[if_pos rfl];exact cont hb hz
  |false =>
   rw[if_neg (by decide)];simp only[List.any_cons,List.any_nil,Bool.or_false,Bool.or_eq_false_iff]at hz;have h2:=gH hb hz.1 h;unfold PK at h2;rw[Ma.d5,Z1 _ _ _ (O2 (by decide +kernel)),if_neg hb,hz.2,if_neg (by decide)]at h2;exact h2
end
def ka (K:W.Frag)(CR CF:Addr):Sp:=λvs H Q E=>∃ (β:Type) (G:Hp) (r:Addr) (b:Bytes) (p:Nat) (k:List Glass->P β) (C:β->Nat->Prop),vs=[.ref r]/\l7 G H/\D1 K CR G H r b p /\
 PK CF ((Ln.Text.glass [] >>= λg=>Ln.Text.glasses FUEL [g]) >>= λl=>Ma.A4 (.w "start") >>= λ_=>k l) C b p E /\
 ∀ d G' H' p' kvs gl,j6 [r] G H G' H'->D1 K CR G' H' r b p'->M7 G' H' d (.dT kvs)->bx K G' kvs gl->cI gl->PK CF (Ma.A4 (.w "start") >>= λ_=>k gl) C b p' E->Q (.ref d) H'
theorem wA:i6 ["reader","glasses"] ["reader"] (d8 T3):=⟨rfl,rfl,rfl,by decide +kernel,rfl,by decide +kernel,by decide +kernel⟩
theorem CI {f:Addr}{fd:FuncData}(F:F1 K "read_glasses" "read_glasses" T3 f fd)(T:Tn K mg CN CF CR)(D:pH w K mg base CR CF)(Dg:B8 prog w K mg base 11 "read_glass" ["reader","glasses"] (ro K CR CF)) :
  o8 prog w K mg base (A7 prog w) 12 f fd ["reader"] (ka K CR CF):=by
 refine F.okX wA (λvs H Q E h=>?_) (λcdv A outer s H vs Q E hr h=>?_)
 ·obtain⟨β,G,r,b,p,k,C,rfl,_⟩:=h;rfl
 ·obtain⟨β,G,r,b,p,k,C,rfl,sm,hR,kk,kq⟩:=h;have hr1:=hr.mono (show 1<=11 by decide);have hr4:=hr.mono (show 4<=11 by decide);refine a0 _ (c8 (i7 (i:=1) wA.nd rfl (Or.inl rfl) nO) (c8 (j8 (cO D.expect T.cl hr4 d6 (pv 0) (c7 (z9 (c7 j9 d4)) d4)))
   (c8 (Z5 J3 (E8 (cO D.sees T.cl hr1 d6 (pv 0) (c7 j9 d4)))
    (c8 (j8 (d9 Dg hr d6 (c7 (pv 0) (c7 (pv 1) d4)))) (d7 (j8 (cO D.expect T.cl hr4 d6 (pv 0) (c7 (z9 (c7 j9 (c7 j9 d4))) d4))))))
   (d7 (j1 (pv 1)))))) ?_
  intro d hd;have e0:j6 [r] G H G (i8 H d (.dT [])):=(j6.refl sm).lend hd;have hR0:=hR.ext (M:=[]) ((j6.refl sm).lend hd (o:=.dT [])) (by simp);have o0:M7 G (i8 H d (.dT [])) d (.dT []):=M7.new sm hd;refine M9 r rfl (hR0.m m4) (by show 1<=sizeLine;decide) (λt0 ht0=>?_);have e1:=e0.lay ht0 (o:=.tup [.str "glass"]);have e01:j6 [] G (i8 H d (.dT [])) _ _:=(j6.refl e0.sub).lay ht0 (o:=.tup [.str "glass"]);have hR1:=hR0.ext e01 (by simp);have o1:=o0.ext e01 (by simp);refine L9 _ r b p t0 ([.w "glass"]) rfl e1.sub hR1 (.of c9) (by decide +kernel) ?_;generalize i8 G t0 (.tup [.str "glass"])=G1 at e1 hR1 o1;generalize i8 (i8 H d (.dT [])) t0 (.tup [.str "glass"])=H1 at e1 hR1 o1;rw[L4];by_cases hb:(i9 b p).1=.broken
  ·rw[if_pos hb];unfold PK at kk;have e:((Ln.Text.glass [] >>= λg=>Ln.Text.glasses FUEL [g]) >>= λl=>Ma.A4 (.w "start") >>= λ_=>k l) (Lx b p)=.error (1,u0 b p):=by
    rw[Ma.d5,Ma.d5,Ma.D8 b p];unfold Ln.Text.glass;rw[Ma.d5,Ma.S0,if_pos hb]
   rw[e]at kk;exact kk
  rw[if_neg hb];have ea:([Ma.K.w "glass"].any λk=>y4 k (i9 b p).1)=y4 (.w "glass") (i9 b p).1:=by simp
  rw[ea];cases hg:y4 (.w "glass") (i9 b p).1 with
  |false =>
   rw[if_neg (by decide)];unfold PK at kk;have e:((Ln.Text.glass [] >>= λg=>Ln.Text.glasses FUEL [g]) >>= λl=>Ma.A4 (.w "start") >>= λ_=>k l) (Lx b p)=.error (2,u0 b p):=by
    rw[Ma.d5,Ma.d5,Ma.D8 b p];unfold Ln.Text.glass;rw[Ma.d5,Ma.S0,if_neg hb,hg,if_neg (by decide)]
   rw[e]at kk;exact kk
  |true =>
  rw[if_pos rfl];have k1:PK CF (Ln.Text.glasses (FUEL+1) [] >>= λl=>Ma.A4 (.w "start") >>= λ_=>k l) C b p E:=by
   refine kk.later ?_;rw[Ma.d5,jQ hg,<-Ma.d5]
  refine Y7 (λσ H'=>σ=[some (.ref r),some (.ref d)]/\∃ (G':Hp) (p':Nat) (kvs:List (List M8×V)) (gl:List Glass) (fu:Nat),j6 [r] G H G' H'/\D1 K CR G' H' r b p'/\M7 G' H' d (.dT kvs)/\bx K G' kvs gl/\cI gl/\gl.length<=64/\gl.length=ke 0 [some (.int (gl.length:Int))]/\fu+gl.length=FUEL/\(i9 b p').1≠.broken/\([Ma.K.w "glass",Ma.K.w "start"].any λk=>y4 k (i9 b p').1)=true /\
    PK CF (Ln.Text.glasses (fu+1) gl >>= λl=>Ma.A4 (.w "start") >>= λ_=>k l) C b p' E) (λ_ H'=>match H' d with
     |some (.dT kvs)=>64-kvs.length
     |_=>0) ⟨rfl,p9 G1 p ([]) ([]) FUEL ⟨e1,hR1,o1,.nil,(by intro g hg;cases hg),(by decide),rfl,rfl,hb,(by rw[List.any_cons,hg];rfl),k1⟩⟩ ?_ (λσ H Q Q' hq h0=>by obtain⟨a1,a2,a3,a4,a5,a6,a7,a8,a9,a10,a11,a12,a13,a14,a15⟩:=h0;exact(g9 a1 a2 a3 (C1 a4 a5 a6 a7 a8 a9 a10 a11 a12 (a0 a13 a14 (hq _ _ a15)))))
  rintro σ H' ⟨rfl,G',p',kvs,gl,fu,e2,hR2,o2,hgl,hok,hle,_,hfu,hb2,hany,k2⟩;refine g9 r rfl (hR2.m m1) (C1 G' r b p' (.w "glass") rfl (by decide +kernel) e2.sub hR2 (a0 _ rfl (N9 (λhz=>?_) (λhz=>?_))))
  ·-- read_glass
   have hmu:(match H' d with
     |some (.dT kvs)=>64-kvs.length
     |_=>0)=64-gl.length:=by rw[o2.at_];show 64-kvs.length=_;rw[hgl.len]
   have hfu1:∃ f',fu=f'+1:=(l9 (fu-1) (by
    have:FUEL=65538:=rfl;omega))
   obtain⟨f',rfl⟩:=hfu1;have k3:=qB hle hz k2;refine a0 _ rfl (a0 _ rfl (p9 G' r b p' d (P9 kvs gl ⟨rfl,e2.sub,hR2,o2,hgl,hok,hle,hz,?_⟩)));unfold PK;have hbr:=Ma.d5 (Ma.bf gl) (λg=>Ln.Text.glasses (f'+1) (gl++[g]) >>= λl=>Ma.A4 (.w "start") >>= λ_=>k l) (Lx b p');unfold PK at k3;cases hx:Ma.bf gl (Lx b p')with
   |error e=>rw[hx]at hbr;rw[hbr]at k3;exact k3
   |ok x =>
    obtain⟨g,l'⟩:=x;rw[hx]at hbr;rw[hbr]at k3;intro p3 hl3 hlt G3 H3 kvs3 e3 hR3 o3 hgl3 hok3;have hl3':l'=Lx b p3:=hl3;subst hl3';have k4:PK CF (Ln.Text.glasses (f'+1) (gl++[g]) >>= λl=>Ma.A4 (.w "start") >>= λ_=>k l) C b p3 E:=k3;refine M9 r rfl (hR3.m m4) (by show 2<=sizeLine;decide) (λt3 ht3=>?_);have e34:j6 [] G3 H3 _ _:=(j6.refl e3.sub).lay ht3 (o:=.tup [.str "glass",.str "start"]);have hR4:=hR3.ext e34 (by simp);have o4:=o3.ext e34 (by simp);have e24:j6 [r] G H (i8 G3 t3 (.tup [.str "glass",.str "start"])) (i8 H3 t3 (.tup [.str "glass",.str "start"])):=by
     have hdn:H d=none:=hd;have e23:j6 [r,d] G H G3 H3:=(j6.two e2).trans e3;have e25:=e23.tr0 e34;exact⟨e25.sub0,e25.sub,e25.grow,λc o hc hcr=>e25.keep c o hc (λhm=>by
      rcases List.mem_cons.mp hm with z|z
      ·exact hcr (by rw[z];simp)
      ·rw[List.mem_singleton.mp z,hdn]at hc;cases hc),e25.there,e25.fresh⟩
    refine L9 _ r b p3 t3 ([.w "glass",.w "start"]) rfl e34.sub hR4 (.of c9) (by decide +kernel) (jt k4 λhb4 hany4=>⟨⟨rfl,p9 _ p3 kvs3 (gl++[g]) f' ⟨e24,hR4,o4,hgl3.mono e34.grow,hok3,?_,rfl,?_,hb4,hany4,k4⟩⟩,?_⟩)
    ·rw[List.length_append];show gl.length+1<=64;omega
    ·rw[List.length_append];show f'+(gl.length+1)=FUEL;omega
    ·rw[hmu,o4.at_];show 64-kvs3.length<_;rw[hgl3.len,List.length_append];show 64-(gl.length+1)<_;omega
  ·-- start
   refine a0 _ rfl (kq d G' H' p' kvs gl e2 hR2 o2 hgl hok (gH hb2 hz k2))
noncomputable def lh:Ln.Kind->Str
 |.surface _=>"surface"
 |.mirror=>"mirror"
 |.halt_=>"stop"
noncomputable def ef (w g l c k:V):List (Str×V):=C3 "conic" k (C3 "curve" c (C3 "glass" l (C3 "gap" g (C3 "word" w []))))
structure gS (K:W.Frag)(CE:Addr)(G:Hp)(v:V)(e:Elem)(gl:List Glass):Prop where
 ex:∃ x dx vg vl vc vk,v=.ref x/\G x=some (.ins CE dx (ef (.str (lh e.kind)) vg vl vc vk))/\Fr K G vg e.gap/\Fr K G vc e.curve/\Fr K G vk e.conic/\(match e.kind with
  |.surface m=>qM K G vl ((gl.map λ(g:Glass)=>g.index).getD m [])/\m<gl.length
  |_=>vl=.non)
 sg:Ma.Sz 60 e.gap
 sc:Ma.Sz 60 e.curve
 sk:Ma.Sz 60 e.conic
theorem gS.mono {K:W.Frag}{CE:Addr}{G G':Hp}{v:V}{e:Elem}{gl:List Glass}(s:l7 G G')(h:gS K CE G v e gl):gS K CE G' v e gl:=by
 obtain⟨⟨x,dx,vg,vl,vc,vk,h1,h2,h3,h4,h5,h6⟩,a,b,c⟩:=h;refine⟨(L9 x dx vg vl vc vk h1 (s _ _ h2) (Fr.mono _ _ _ _ s h3) (Fr.mono _ _ _ _ s h4) (Fr.mono _ _ _ _ s h5) ?_),a,b,c⟩;cases hk:e.kind with
 |surface m=>rw[hk]at h6;exact⟨h6.1.mono s,h6.2⟩
 |mirror=>rw[hk]at h6;exact h6
 |halt_=>rw[hk]at h6;exact h6
structure EB (P:Program)(w:World)(K:W.Frag)(mg:Str->Option Value)(base:Heap)(k:Nat)(C:Addr)(x:Str)(ps:List Str)(sp:Sp):Prop where
 cl:kZ K C
 m:mg x=some (.ref C)
 ex:∃ f fd,Mk K C f/\o8 P w K mg base (A7 P w) k f fd ps sp/\V1 K fd ps []
structure Te (K:W.Frag)(CE:Addr):Prop where
 cl:kZ K CE
 n1:t8 K CE "word"
 n2:t8 K CE "gap"
 n3:t8 K CE "glass"
 n4:t8 K CE "curve"
 n5:t8 K CE "conic"
def Fc (CE:Addr):Sp:=λvs H Q _=>∃ (x dx:Addr) (a1 a2 a3 a4 a5:V),vs=[.ref x,a1,a2,a3,a4,a5]/\H x=some (.ins CE dx [])/\Q .non (i8 H x (.ins CE dx (ef a1 a2 a3 a4 a5)))
theorem Fi:i6 ["self","word","gap","glass","curve","conic"] ["self","word","gap","glass","curve","conic"] (d8 U0):=⟨rfl,rfl,rfl,by decide +kernel,rfl,by decide +kernel,by decide +kernel⟩
theorem Fy {f:Addr}{fd:FuncData}(F:F1 K "__init__" "Element.__init__" U0 f fd)(T:Te K CE):o8 prog w K mg base (A7 prog w) 1 f fd ["self","word","gap","glass","curve","conic"] (Fc CE):=by
 refine F.okX Fi (λvs H Q E h=>?_) (λcdv A outer s H vs Q E hr h=>?_)
 ·obtain⟨x,dx,a1,a2,a3,a4,a5,rfl,_⟩:=h;rfl
 ·obtain⟨x,dx,a1,a2,a3,a4,a5,rfl,hx,k⟩:=h;refine a0 _ (c8 (C4 (pv 0) (pv 1) rfl) (c8 (C4 (pv 0) (pv 2) rfl) (c8 (C4 (pv 0) (pv 3) rfl) (c8 (C4 (pv 0) (pv 4) rfl) (d7 (C4 (pv 0) (pv 5) rfl)))))) ?_;refine a0 _ rfl (a0 _ rfl (l8 x CE dx _ rfl hx T.cl T.n1 (by show 0<1000;decide) ?_));refine a0 _ rfl (a0 _ rfl (l8 x CE dx _ rfl c9 T.cl T.n2 (by show 1<1000;decide) ?_));rw[A8];refine a0 _ rfl (a0 _ rfl (l8 x CE dx _ rfl c9 T.cl T.n3 (by show 2<1000;decide) ?_));rw[A8];refine a0 _ rfl (a0 _ rfl (l8 x CE dx _ rfl c9 T.cl T.n4 (by show 3<1000;decide) ?_));rw[A8];refine a0 _ rfl (a0 _ rfl (l8 x CE dx _ rfl c9 T.cl T.n5 (by show 4<1000;decide) ?_));rw[A8];exact k
section
variable {X:Cx}{k:Nat}{C:Addr}{x:Str}{ps:List Str}{sp:Sp}{E:XK}{p pos:Pos}{e:Expr}{es:List Expr}{t:TA}
theorem iV (D:EB X.prog X.w X.K X.mg X.base k C x ps sp)(hr:F9 (k+1) X.A)(hx:F6 (A7 X.prog X.w) X E)(ha:PA X (e::es) t)(hg:Gl X x:=by rfl)(hdb:(x==("__debug__" : Str))=false:=by decide)
  (he:starEach (e::es) X.env=(false,eval e X.env)::starEach es X.env:=by rfl) (hpl:(backTo pos (starEach es X.env)).any (·.1)=false:=by rfl) :
  PE X (.Call (.Name x p) (e::es) [] pos) (AN C sp [] E t):=by
 obtain⟨f,fd,M,F,hb⟩:=D.ex;exact zj M F hr hg D.m hb .nil hx ha hdb he hpl
end
theorem cA {s:String}{t:Ln.Text.Tok}(h:y4 (.w s) t=true):t=.word (Ln.ascii s):=eq_of_beq h
def vI (t:Ln.Text.Tok):Prop:=y4 (.w "surface") t=true\/y4 (.w "mirror") t=true\/y4 (.w "stop") t=true
def wq (K:W.Frag)(CR CF CE:Addr):Sp:=λvs H Q E=>∃ (G:Hp) (r:Addr) (b:Bytes) (p:Nat) (d:Addr) (kvs:List (List M8×V)) (gl:List Glass) (dn:Addr) (kn:List (List M8×V)) (others:List Elem),vs=[.ref r,.ref d,.ref dn]/\l7 G H/\D1 K CR G H r b p/\M7 G H d (.dT kvs)/\bx K G kvs gl/\M7 G H dn (.dT kn)/\gQ kn (others.map (·.name))/\kn.length=others.length/\d≠dn/\others.length<=64/\vI (i9 b p).1 /\
 PK CF (Ma.gq gl others (i9 b p).1) (λe p'=>others.length<64->∀ v G' H' kn',j6 [r,dn] G H G' H'->D1 K CR G' H' r b p'->M7 G' H' dn (.dT kn')->gQ kn' ((others++[e]).map (·.name))->kn'.length=others.length+1->gS K CE G' v e gl->Q v H') b p E
theorem tH (l:List Elem):Ma.lu l=λb=>(l.map (·.name)).any λn=>n==b:=by
 funext b
 unfold Ma.lu;rw[List.any_map];rfl
noncomputable def EM (n:Bytes)(g:Rat)(kd:Ln.Kind)(c k:Rat):P Elem:=Ma.L7 >>= λo=>Ma.A4 (.m 59) >>= λ_=>pure ⟨n,g,kd,c,k,o⟩
theorem nY {gl:List Glass}{l l':List Lex}{i:Nat}(h:Ln.Text.glassNamed gl l=.ok (i,l')):i<gl.length:=by
 unfold Ln.Text.glassNamed at h;rw[Ma.d5]at h;cases hx:Ln.Text.name l with
 |error e=>rw[hx]at h;cases h
 |ok x =>
  rw[hx]at h;dsimp only at h;cases hj:(gl.map λ(g:Glass)=>g.name).idxOf? x.1.2 with
  |none=>rw[hj]at h;cases h
  |some j =>
   rw[hj]at h;cases h;obtain⟨hlt,_⟩:=List.findIdx?_eq_some_iff_getElem.mp hj;rw[List.length_map]at hlt;exact hlt
theorem aH:i6 ["reader","glasses","names","word","gap","glass","curve","conic"] ["reader","glasses","names"] (d8 T4):=⟨rfl,rfl,rfl,by decide +kernel,rfl,by decide +kernel,by decide +kernel⟩
theorem dR {x y:Str}{A B:Prop}(h1:x=y->A)(h2:x≠y->B):if(decide (V.str x=V.str y))=true then A else B:=by
 by_cases h:x=y
 ·rw[if_pos (by simp[h])];exact h1 h
 ·rw[if_neg (by simp[h])];exact h2 h
theorem Ea {x y:Str}{A B:Prop}(h1:x≠y->A)(h2:x=y->B):if(!decide (V.str x=V.str y))=true then A else B:=by
 by_cases h:x=y
 ·rw[if_neg (by simp[h])];exact h2 h
 ·rw[if_pos (by simp[h])];exact h1 h
theorem DY {t:Ln.Text.Tok}(h:y4 (.w "surface") t=true):fA t="surface":=by rw[cA h];decide +kernel
theorem xM {t:Ln.Text.Tok}(h:y4 (.w "mirror") t=true):fA t="mirror":=by rw[cA h];decide +kernel
theorem xJ {t:Ln.Text.Tok}(h:y4 (.w "stop") t=true):fA t="stop":=by rw[cA h];decide +kernel
theorem Bd:("mirror" : Str)≠"surface":=by decide +kernel
theorem Bb:("stop" : Str)≠"surface":=by decide +kernel
theorem Bc:("surface" : Str)≠"stop":=by decide +kernel
theorem Bf:("mirror" : Str)≠"stop":=by decide +kernel
theorem vy {s s':String}{t:Ln.Text.Tok}(h:y4 (.w s) t=true)(ne:Ln.ascii s≠Ln.ascii s'):y4 (.w s') t=false:=by
 rw[cA h];exact beq_eq_false_iff_ne.mpr λz=>ne (Ln.Text.Tok.word.inj z)
theorem CK {f:Addr}{fd:FuncData}(F:F1 K "read_element" "read_element" T4 f fd)(T:Tn K mg CN CF CR)(Z:Tq K mg)(D:pH w K mg base CR CF)(DE:EB prog w K mg base 1 CE "Element" ["self","word","gap","glass","curve","conic"] (Fc CE))(Dn:B8 prog w K mg base 8 "read_new_name" ["reader","names"] (fM K CR CF))
  (Du:B8 prog w K mg base 9 "read_number" ["reader"] (pG K CR CF Ma.C2 (Rq K))) (Dk:B8 prog w K mg base 8 "read_known_glass" ["reader","glasses"] (lC K CR CF)) (Dc:B8 prog w K mg base 11 "read_curve" ["reader"] (pG K CR CF Ma.U2 (Rq K)))
  (Do:B8 prog w K mg base 11 "read_conic" ["reader"] (pG K CR CF Ma.Y0 (Rq K))) (Dp:B8 prog w K mg base 10 "pass_clear" ["reader"] (pG K CR CF Ma.L7 (λ_ v _=>v=.non))):o8 prog w K mg base (A7 prog w) 12 f fd ["reader","glasses","names"] (wq K CR CF CE):=by
 refine F.okX aH (λvs H Q E h=>?_) (λcdv A outer s H vs Q E hr h=>?_)
 ·obtain⟨G,r,b,p,d,kvs,gl,dn,kn,others,rfl,_⟩:=h;rfl
 ·obtain⟨G,r,b,p,d,kvs,gl,dn,kn,others,rfl,sm,hR,ho,hg,hn,hkn,hln,hdd,hle,ht3,kk⟩:=h;have hr2:=hr.mono (show 2<=11 by decide);have hr3:=hr.mono (show 3<=11 by decide);have hr6:=hr.mono (show 6<=11 by decide);have hr7:=hr.mono (show 7<=11 by decide);have hr8:=hr.mono (show 8<=11 by decide);have hr9:=hr.mono (show 9<=11 by decide);have hr10:=hr.mono (show 10<=11 by decide);have hu:=sA hr;obtain⟨aZ,mZ,hZ⟩:=Z.zero_;refine a0 _ (c8 (y2 (m9 K2 (A6 kO (by rfl) T.len_ boot_len (c7 (pv 2) d4)) (fU T.most64_) (n9 _)) (d7 (j8 (cO D.refuse T.cl hr3 d6 (pv 0) (c7 (fU T.k5) d4)))) l6)
   (c8 (i7 (i:=3) aH.nd rfl (Or.inl rfl) (m7 r9 (t9 (pv 0) rfl) g8 (λ_ _=>rfl)))
   (c8 (j8 (eK D.step T.cl hr6 d6 (pv 0)))
   (c8 (rN hu (pv 2) (d9 Dn hr8 d6 (c7 (pv 0) (c7 (pv 2) d4))) km rfl)
   (c8 (j8 (cO D.take T.cl hr7 d6 (pv 0) (c7 j9 d4)))
   (c8 (i7 (i:=4) aH.nd rfl (Or.inl rfl) (d9 Du hr9 d6 (c7 (pv 0) d4)))
   (c8 (i7 (i:=5) aH.nd rfl (Or.inl rfl) Ce)
   (c8 (i7 (i:=6) aH.nd rfl (Or.inl rfl) (C6 (v:=.ref aZ) (by rfl) mZ rfl))
   (c8 (i7 (i:=7) aH.nd rfl (Or.inl rfl) (C6 (v:=.ref aZ) (by rfl) mZ rfl))
   (R5 (y2 (m9 K2 (pv 3) j9 (n9 _)) (c8 (j8 (cO D.take T.cl hr7 d6 (pv 0) (c7 j9 d4))) (d7 (i7 (i:=5) aH.nd rfl (Or.inl rfl) (d9 Dk hr8 d6 (c7 (pv 0) (c7 (pv 1) d4)))))) l6)
   (R5 (y2 (m9 AZ (pv 3) j9 (n9 _)) (c8 (i7 (i:=6) aH.nd rfl (Or.inl rfl) (d9 Dc hr d6 (c7 (pv 0) d4))) (d7 (i7 (i:=7) aH.nd rfl (Or.inl rfl) (d9 Do hr d6 (c7 (pv 0) d4))))) l6)
   (c8 (j8 (d9 Dp hr10 d6 (c7 (pv 0) d4)))
   (c8 (j8 (cO D.take T.cl hr7 d6 (pv 0) (c7 j9 d4)))
   (d7 (j1 (iV DE hr2 d6 (c7 (pv 3) (c7 (pv 4) (c7 (pv 5) (c7 (pv 6) (c7 (pv 7) d4))))))))))))))))))))) ?_
  have ndr:d≠r:=hR.nd ho;have nnr:dn≠r:=hR.nd hn;obtain⟨hpl,dx,tt,tk,hro,_,htk⟩:=id hR;have hover:K1 (i9 b p).1=false:=by
   rcases ht3 with z|z|z
   ·exact L0 (k:=.w "surface") (by decide +kernel) z
   ·exact L0 (k:=.w "mirror") (by decide +kernel) z
   ·exact L0 (k:=.w "stop") (by decide +kernel) z
  refine a0 _ rfl (i3 dn _ rfl hn.at_ rfl (a0 _ rfl (N5 (λh1=>?_) (λh1=>?_))))
  ·rw[hln]at h1;unfold Ma.gq at kk;rw[if_pos (by omega)]at kk;exact g9 r rfl (hR.m m3) (bO G r b p 5 rfl sm hR kk.refuse)
  have h1':others.length≠64:=by rw[hln]at h1;omega
  have hlt:others.length<64:=by omega
  unfold Ma.gq at kk;rw[if_neg h1']at kk;refine a0 _ rfl (l4 r CR dx _ _ rfl hro.at_ T.cl T.nToken (U1 _ _) (j5 tk _ _ _ rfl rfl (sm.seqT htk) rfl ?_));refine g9 r rfl (hR.m m5) (q0 G r b p rfl sm hR (λG1 H1 e1 hR1=>?_));have k1:=kk.pass hover;rw[tH]at k1;have hn1:=hn.ext e1 (by simpa using nnr);refine a0 _ rfl (a0 _ rfl (a0 _ rfl (bM G1 r b _ dn kn (others.map (·.name)) rfl e1.sub hR1 hn1 hkn (k1.call λnb v G2 H2 p2 hm2 e2 hR2 hv k2=>?_))));obtain⟨tn,rfl,htn⟩:=hv;have e12:=e1.trans e2;have hn2:=hn.ext e12 (by simpa using nnr);have hnt:V2 kn (key nb)=none:=by
   have h2:=jh hm2;have h3:=hkn.some_iff nb;rw[h2]at h3;cases z:V2 kn (key nb)with
   |none=>rfl
   |some x=>rw[z]at h3;cases h3
  refine h9 dn _ rfl (uT.t (k:=key nb) hn2.at_ (by rw[jr];exact e12.sub _ _ htn) (by rw[hln];exact Nat.lt_of_lt_of_le hlt (by decide))) ?_;rw[nH _ hnt];have e3:j6 [r,dn] G H G2 (i8 H2 dn (.dT (kn++[(key nb,.bl true)]))):=(j6.two e12).put (.inr (by simp)) hn2.fr;have hR3:D1 K CR G2 (i8 H2 dn (.dT (kn++[(key nb,.bl true)]))) r b p2:=hR2.ext (M:=[dn]) ((j6.refl e12.sub).put (.inr (by simp)) hn2.fr) (by simpa using λz=>nnr z.symm);have hn3:M7 G2 (i8 H2 dn (.dT (kn++[(key nb,.bl true)]))) dn (.dT (kn++[(key nb,.bl true)])):=⟨c9,hn2.fr⟩;have hkn3:gQ (kn++[(key nb,.bl true)]) (others.map (·.name)++[nb]):=by
   unfold gQ at hkn⊢;rw[List.map_append,List.map_append,hkn];rfl
  generalize i8 H2 dn (.dT (kn++[(key nb,.bl true)]))=H3 at e3 hR3 hn3;refine g9 r rfl (hR3.m m6) (C1 G2 r b p2 (.w "after") rfl e3.sub hR3 (by decide +kernel) (k2.take (by decide +kernel) λv4 G4 H4 _ e4 hR4 _ k4=>?_));refine a0 _ rfl (q0 G4 r b _ rfl e4.sub hR4 (k4.call λg v5 G5 H5 p5 _ e5 hR5 hv5 k5=>?_));have e35:=e4.trans e5;have e05:j6 [r,dn] G H G5 H5:=e3.trans (j6.two e35);have hn5:=hn3.ext e35 (by simpa using nnr);have ho5:=ho.ext e05 (by simp[ndr,hdd]);have hg5:=hg.mono e05.grow;refine a0 (λσ' H'=>∃ (G':Hp) (p':Nat) (kd:Ln.Kind) (vl:V),σ'=[some (.ref r),some (.ref d),some (.ref dn),some (.str (fA (i9 b p).1)),some v5,some vl,some (.ref aZ),some (.ref aZ)]/\fA (i9 b p).1=lh kd/\j6 [r] G5 H5 G' H'/\D1 K CR G' H' r b p'/\(match kd with
    |.surface m=>qM K G' vl ((gl.map λ(g:Glass)=>g.index).getD m [])/\m<gl.length
    |_=>vl=.non)/\PK CF (Ma.K4 nb g kd (decide (kd=.halt_))) (λe p'=>others.length<64->∀ v G' H' kn',j6 [r,dn] G H G' H'->D1 K CR G' H' r b p'->M7 G' H' dn (.dT kn')->gQ kn' ((others++[e]).map (·.name))->kn'.length=others.length+1->gS K CE G' v e gl->Q v H') b p' E) ?_ ?_
  ·refine g9 _ rfl rfl (a0 _ rfl (dR (λhs=>?_) (λhs=>?_)))
   ·have hsur:y4 (.w "surface") (i9 b p).1=true:=by
     rcases ht3 with z|z|z
     ·exact z
     ·rw[xM z]at hs;exact absurd hs Bd
     ·rw[xJ z]at hs;exact absurd hs Bb
    rw[if_pos hsur]at k5;refine g9 r rfl (hR5.m m6) (C1 G5 r b p5 (.w "into") rfl e5.sub hR5 (by decide +kernel) (k5.take (by decide +kernel) λv6 G6 H6 _ e6 hR6 _ k6=>?_));have ho6:=ho5.ext e6 (by simpa using ndr);refine a0 _ rfl (a0 _ rfl (bM G6 r b _ d kvs gl rfl e6.sub hR6 ho6 (hg5.mono e6.grow) (k6.call λm v7 G7 H7 p7 hm7 e7 hR7 hv7 k7=>?_)));exact l8 G7 p7 (.surface m) v7 rfl hs (e6.trans e7) hR7 ⟨hv7,nY hm7⟩ k7
   ·rcases ht3 with z|z|z
    ·exact absurd (DY z) hs
    ·rw[if_neg (by rw[vy z (by decide +kernel)];decide),if_pos (vy z (by decide +kernel))]at k5;exact l8 G5 p5 .mirror .non rfl (xM z) (j6.refl e5.sub) hR5 rfl k5
    ·rw[if_neg (by rw[vy z (by decide +kernel)];decide),if_neg (by rw[z];decide)]at k5;exact l8 G5 p5 .halt_ .non rfl (xJ z) (j6.refl e5.sub) hR5 rfl k5
  rintro σ' H6 ⟨G6,p6,kd,vl,rfl,hkd,e6,hR6,hvl,k6⟩;refine a0 (λσ' H'=>∃ (G':Hp) (p':Nat) (vc vk:V) (c k:Rat),σ'=[some (.ref r),some (.ref d),some (.ref dn),some (.str (fA (i9 b p).1)),some v5,some vl,some vc,some vk]/\j6 [r] G6 H6 G' H'/\D1 K CR G' H' r b p'/\Rq K G' vc c/\Rq K G' vk k/\PK CF (EM nb g kd c k) (λe p'=>others.length<64->∀ v G' H' kn',j6 [r,dn] G H G' H'->D1 K CR G' H' r b p'->M7 G' H' dn (.dT kn')->gQ kn' ((others++[e]).map (·.name))->kn'.length=others.length+1->gS K CE G' v e gl->Q v H') b p' E) ?_ ?_
  ·refine g9 _ rfl rfl (a0 _ rfl (Ea (λhs=>?_) (λhs=>?_)))
   ·have hnh:kd≠.halt_:=λz=>hs (by rw[hkd,z];rfl);rw[decide_eq_false hnh]at k6;refine a0 _ rfl (q0 G6 r b p6 rfl e6.sub hR6 (PK.call (C:=_) k6 λc v7 G7 H7 p7 _ e7 hR7 hv7 k7=>?_));refine a0 _ rfl (q0 G7 r b p7 rfl e7.sub hR7 (PK.call (C:=_) k7 λz v8 G8 H8 p8 _ e8 hR8 hv8 k8=>?_));exact L9 G8 p8 v7 v8 c z rfl (e7.trans e8) hR8 ⟨Fr.mono _ _ _ _ e8.grow hv7.1,hv7.2⟩ hv8 k8
   ·have hh:kd=.halt_:=by
     cases kd with
     |halt_=>rfl
     |mirror=>rw[hkd]at hs;exact absurd hs Bf
     |surface m=>rw[hkd]at hs;exact absurd hs Bc
    rw[decide_eq_true hh]at k6;exact L9 G6 p6 (.ref aZ) (.ref aZ) 0 0 rfl (j6.refl e6.sub) hR6 ⟨(a0 aZ rfl (hZ _)),nq⟩ ⟨(a0 aZ rfl (hZ _)),nq⟩ k6
  rintro σ' H7 ⟨G7,p7,vc,vk,c,kc,rfl,e7,hR7,hvc,hvk,k7⟩;refine a0 _ rfl (q0 G7 r b p7 rfl e7.sub hR7 (PK.call (C:=_) k7 λo v8 G8 H8 p8 _ e8 hR8 _ k8=>?_));refine g9 r rfl (hR8.m m6) (C1 G8 r b p8 (.m 59) rfl e8.sub hR8 (by decide +kernel) (k8.take (by decide +kernel) λv9 G9 H9 _ e9 hR9 _ k9=>?_));have e59:j6 [r] G5 H5 G9 H9:=((e6.trans e7).trans e8).trans e9;have e09:j6 [r,dn] G H G9 H9:=e05.trans (j6.two e59);have hn9:=hn5.ext e59 (by simpa using nnr);refine a0 _ rfl (a0 _ rfl (a0 _ rfl (a0 _ rfl (a0 _ rfl (λx dx' hx hdx hne=>?_)))));have eA:j6 [r,dn] G H G9 (i8 H9 dx' (.own x)):=e09.lend hdx;have hx1:i8 H9 dx' (.own x) x=none:=by rw[i0 (λz=>hne z.symm)];exact hx
  have eB:=eA.lend hx1 (o:=.ins CE dx' []);refine p9 x dx' _ _ _ (i3 _ _ rfl c9 rfl ?_);rw[A8];have eC:=eA.lay hx1 (o:=.ins CE dx' (ef (.str (fA (i9 b p).1)) v5 vl vc vk));have eD:j6 [] G9 H9 (i8 G9 x (.ins CE dx' (ef (.str (fA (i9 b p).1)) v5 vl vc vk))) (i8 (i8 H9 dx' (.own x)) x (.ins CE dx' (ef (.str (fA (i9 b p).1)) v5 vl vc vk))):=((j6.refl e9.sub).lend hdx).lay hx1;have g57:l7 G5 G9:=e59.grow;have gD:l7 G9 (i8 G9 x (.ins CE dx' (ef (.str (fA (i9 b p).1)) v5 vl vc vk))):=eD.grow;refine(PK.done k9) hlt _ _ _ _ eC (hR9.ext eD (by simp)) (hn9.ext eD (by simp)) ?_ ?_ ⟨(L9 x dx' v5 vl vc vk rfl ?_ ?_ ?_ ?_ ?_),hv5.2,hvc.2,hvk.2⟩
  ·rw[List.map_append];exact hkn3
  ·rw[List.length_append,hln];rfl
  ·rw[c9,hkd]
  ·exact Fr.mono _ _ _ _ (g57.trans gD) hv5.1
  ·exact Fr.mono _ _ _ _ ((e8.grow.trans e9.grow).trans gD) hvc.1
  ·exact Fr.mono _ _ _ _ ((e8.grow.trans e9.grow).trans gD) hvk.1
  ·cases kd with
   |surface m=>exact⟨hvl.1.mono (((e7.grow.trans e8.grow).trans e9.grow).trans gD),hvl.2⟩
   |mirror=>exact hvl
   |halt_=>exact hvl
noncomputable def four:List Ma.K:=[.w "surface",.w "mirror",.w "stop",.fin]
section
variable {β:Type}{CF:Addr}{b:Bytes}{p:Nat}{E:XK}{gl:List Glass}{C:List Elem->Nat->Prop}
theorem yg {f:Nat}{l:List Elem}(hl:l.length<=64)(ht:vI (i9 b p).1)(h:PK CF (Ln.Text.elems gl (f+1) l) C b p E):PK CF (Ma.gq gl l (i9 b p).1 >>= λe=>Ln.Text.elems gl f (l++[e])) C b p E:=by
 have hb:¬ (i9 b p).1=.broken:=λz=>by rw[z]at ht;rcases ht with q|q|q<;>cases q
 have hf:y4 .fin (i9 b p).1=false:=by
  rcases ht with q|q|q<;>(rw[cA q];rfl)
 refine h.later ?_
 conv=>lhs;rw[Ma.D8 b p,Ma.dU _ _ _ _ _ hb,hf,if_neg (by decide),Ma.d5]
 conv=>rhs;rw[Ma.d5,Ma.D8 b p]
 have:=Ma.Ao gl l hl ⟨u0 b p,(i9 b p).1⟩ (if K1 (i9 b p).1=true then[]else Lx b (u0 b p+(i9 b p).2)) ht;rw[<-this]
theorem uI {f:Nat}{l:List Elem}(hf:y4 .fin (i9 b p).1=true)(h:PK CF (Ln.Text.elems gl (f+1) l) C b p E):C l p:=by
 have hb:¬ (i9 b p).1=.broken:=λz=>by rw[z]at hf;cases hf
 unfold PK at h;have e:Ln.Text.elems gl (f+1) l (Lx b p)=.ok (l,Lx b p):=by
  conv=>lhs;rw[Ma.D8 b p,Ma.dU _ _ _ _ _ hb,if_pos hf,<-Ma.D8 b p]
 rw[e]at h;exact h p rfl
theorem fb {f:Nat}{l:List Elem}{Q1:Prop}(h:PK CF (Ln.Text.elems gl (f+1) l) C b p E)
  (cont:(i9 b p).1≠.broken->(four.any λk=>y4 k (i9 b p).1)=true->Q1):match Ma.expect four (Lx b p)with
   |.ok _=>Q1
   |.error e=>ee CF E e:=by
 rw[L4];by_cases hb:(i9 b p).1=.broken
 ·rw[if_pos hb];unfold PK at h;have e:Ln.Text.elems gl (f+1) l (Lx b p)=.error (1,u0 b p):=by
   rw[Ma.D8 b p];show(Ln.Text.peek >>= _) _=_;rw[Ma.d5,Ma.D5,if_pos hb]
  rw[e]at h;exact h
 ·rw[if_neg hb];cases hz:four.any λk=>y4 k (i9 b p).1 with
  |true=>rw[if_pos rfl];exact cont hb hz
  |false =>
   rw[if_neg (by decide)];unfold PK at h;have e:Ln.Text.elems gl (f+1) l (Lx b p)=.error (2,u0 b p):=by
    rw[Ma.D8 b p];exact Ma.uJ gl f l _ _ hb hz
   rw[e]at h;exact h
end
theorem vH {t:Ln.Text.Tok}(h:(four.any λk=>y4 k t)=true)(hf:y4 .fin t=false):vI t:=by
 simp only[four,List.any_cons,List.any_nil,Bool.or_false,Bool.or_eq_true,hf]at h;rcases h with h|h|h
 ·exact .inl h
 ·exact .inr (.inl h)
 ·exact .inr (.inr (by simpa using h))
def dZ (K:W.Frag)(CE:Addr)(G:Hp)(v:V)(es:List Elem)(gl:List Glass):Prop:=∃ L vs,v=.ref L/\G L=some (.lst vs)/\Paired (λv e=>gS K CE G v e gl) vs es
theorem dZ.mono {K:W.Frag}{CE:Addr}{G G':Hp}{v:V}{es:List Elem}{gl:List Glass}(s:l7 G G')(h:dZ K CE G v es gl):dZ K CE G' v es gl:=by
 obtain⟨L,vs,h1,h2,h3⟩:=h;exact h9 L vs h1 (s _ _ h2) (Paired.map' (λ_ _ z=>z.mono s) h3)
theorem j6.drop {M:List Addr}{x:Addr}{G H G1 H1:Hp}(hx:H x=none)(e:j6 (x::M) G H G1 H1):j6 M G H G1 H1 :=
 ⟨e.sub0,e.sub,e.grow,λc o hc hm=>e.keep c o hc λz=>by
  rcases List.mem_cons.mp z with q|q
  ·rw[q,hx]at hc;cases hc
  ·exact hm q,e.there,e.fresh⟩
theorem j6.swap {x y:Addr}{G H G1 H1:Hp}(e:j6 [x,y] G H G1 H1):j6 [y,x] G H G1 H1:=e.mono λb hb=>by simp at hb⊢;exact hb.symm
def wd (K:W.Frag)(CR CF CE:Addr):Sp:=λvs H Q E=>∃ (G:Hp) (r:Addr) (b:Bytes) (p:Nat) (d:Addr) (kvs:List (List M8×V)) (gl:List Glass),vs=[.ref r,.ref d]/\l7 G H/\D1 K CR G H r b p/\M7 G H d (.dT kvs)/\bx K G kvs gl /\
 PK CF (Ln.Text.elems gl FUEL []) (λes p'=>∀ v G' H',j6 [r] G H G' H'->D1 K CR G' H' r b p'->dZ K CE G' v es gl->es.length<=64->Q v H') b p E
theorem qb:i6 ["reader","glasses","names","path"] ["reader","glasses"] (d8 cf):=⟨rfl,rfl,rfl,by decide +kernel,rfl,by decide +kernel,by decide +kernel⟩
theorem CD {f:Addr}{fd:FuncData}(F:F1 K "read_path" "read_path" cf f fd)(T:Tn K mg CN CF CR)(D:pH w K mg base CR CF)(De:B8 prog w K mg base 12 "read_element" ["reader","glasses","names"] (wq K CR CF CE)) :
  o8 prog w K mg base (A7 prog w) 13 f fd ["reader","glasses"] (wd K CR CF CE):=by
 refine F.okX qb (λvs H Q E h=>?_) (λcdv A outer s H vs Q E hr h=>?_)
 ·obtain⟨G,r,b,p,d,kvs,gl,rfl,_⟩:=h;rfl
 ·obtain⟨G,r,b,p,d,kvs,gl,rfl,sm,hR,ho,hg,kk⟩:=h;have hr1:=hr.mono (show 1<=12 by decide);have hr4:=hr.mono (show 4<=12 by decide);refine a0 _ (c8 (i7 (i:=2) qb.nd rfl (Or.inl rfl) nO) (c8 (i7 (i:=3) qb.nd rfl (Or.inl rfl) (C5 d4))
   (c8 (j8 (cO D.expect T.cl hr4 d6 (pv 0) (c7 (z9 (c7 j9 (c7 j9 (c7 j9 (c7 j9 d4))))) d4)))
   (c8 (Z5 J3 (iQ (E8 (cO D.sees T.cl hr1 d6 (pv 0) (c7 j9 d4))))
    (c8 (j8 (kl PySem.F.plainAttrs_list PySem.F.slot_list_append PySem.F.type_list_append Z8 (pv 3) (c7 (d9 De hr d6 (c7 (pv 0) (c7 (pv 1) (c7 (pv 2) d4)))) d4)))
    (d7 (j8 (cO D.expect T.cl hr4 d6 (pv 0) (c7 (z9 (c7 j9 (c7 j9 (c7 j9 (c7 j9 d4))))) d4))))))
   (d7 (j1 (pv 3))))))) ?_
  have ndr:d≠r:=hR.nd ho;intro dn hdn;have e0:j6 [] G H G (i8 H dn (.dT [])):=(j6.refl sm).lend hdn;refine⟨(by show 0<=sizeLine;decide),λL hL=>?_⟩;have e1:=e0.lend hL (o:=.lst []);have hLd:L≠dn:=λz=>by rw[z,c9]at hL;cases hL
  have hL0:H L=none:=e0.none_of hL;have hR1:=hR.ext e1 (by simp);have on1:M7 G (i8 (i8 H dn (.dT [])) L (.lst [])) dn (.dT []):=⟨by rw[i0 (λz=>hLd z.symm),c9],sm.free hdn⟩;have oL1:M7 G (i8 (i8 H dn (.dT [])) L (.lst [])) L (.lst []):=⟨c9,e0.sub.free hL⟩;refine M9 r rfl (hR1.m m4) (by show 4<=sizeLine;decide) (λt0 ht0=>?_);have e2:=e1.lay ht0 (o:=.tup [.str "surface",.str "mirror",.str "stop",.str "end"]);have e12:j6 [] G (i8 (i8 H dn (.dT [])) L (.lst [])) _ _:=(j6.refl e1.sub).lay ht0 (o:=.tup [.str "surface",.str "mirror",.str "stop",.str "end"]);have hR2:=hR1.ext e12 (by simp);have on2:=on1.ext e12 (by simp);have oL2:=oL1.ext e12 (by simp);refine L9 _ r b p t0 four rfl e2.sub hR2 (.of c9) (by decide +kernel) (fb (f:=FUEL-1) kk λhb hany=>?_);generalize i8 G t0 (.tup [.str "surface",.str "mirror",.str "stop",.str "end"])=G2 at e2 hR2 on2 oL2;generalize i8 (i8 (i8 H dn (.dT [])) L (.lst [])) t0 (.tup [.str "surface",.str "mirror",.str "stop",.str "end"])=H2 at e2 hR2 on2 oL2;refine Y7 (λσ H'=>σ=[some (.ref r),some (.ref d),some (.ref dn),some (.ref L)]/\∃ (G':Hp) (p':Nat) (kn:List (List M8×V)) (vs:List V) (es:List Elem) (fu:Nat),j6 [r] G H G' H'/\D1 K CR G' H' r b p'/\M7 G' H' dn (.dT kn)/\M7 G' H' L (.lst vs)/\gQ kn (es.map (·.name))/\kn.length=es.length/\Paired (λv e=>gS K CE G' v e gl) vs es/\es.length<=64/\fu+1+es.length=FUEL/\(four.any λk=>y4 k (i9 b p').1)=true /\
    PK CF (Ln.Text.elems gl (fu+1) es) (λes p'=>∀ v G' H',j6 [r] G H G' H'->D1 K CR G' H' r b p'->dZ K CE G' v es gl->es.length<=64->Q v H') b p' E) (λ_ H'=>match H' dn with
     |some (.dT kn)=>64-kn.length
     |_=>0) ⟨rfl,p9 G2 p ([]) ([]) ([]) (l9 (FUEL-1) ⟨e2.up,hR2,on2,oL2,rfl,rfl,.nil,(by decide),rfl,hany,kk⟩)⟩ ?_ (λσ H Q Q' hq h0=>by obtain⟨a1,a2,a3,a4,a5,a6,a7,a8,a9,a10,a11,a12,a13,a14,a15⟩:=h0;exact(g9 a1 a2 a3 (C1 a4 a5 a6 a7 a8 a9 a10 a11 a12 (a0 a13 a14 (hq _ _ a15)))))
  rintro σ H3 ⟨rfl,G3,p3,kn,vs,es,fu,e3,hR3,on3,oL3,hkn,hln,hpd,hle,hfu,hany3,k3⟩;refine g9 r rfl (hR3.m m1) (C1 G3 r b p3 .fin rfl (by decide +kernel) e3.sub hR3 (a0 _ rfl ?_));cases hf:y4 .fin (i9 b p3).1 with
  |true =>
   refine fW (a0 _ rfl ?_);have eF:=e3.freeze oL3.at_ hL0;have eG:j6 [] G3 H3 G3 H3:=j6.refl e3.sub;have sG:l7 G3 (i8 G3 L (.lst vs)):=λc o hc=>by
    have:c≠L:=λz=>by rw[z,oL3.fr]at hc;cases hc
    rw[i0 this];exact hc
   refine uI hf k3 _ _ _ eF ?_ (h9 L vs rfl c9 (Paired.map' (λ_ _ z=>z.mono sG) hpd)) hle;obtain⟨h1,dx,t,tk,h2,h3,h4⟩:=hR3;refine⟨h1,bP dx t tk ⟨h2.at_,?_⟩ (sG.seq h3) (sG.seqT h4)⟩;have:r≠L:=λz=>by
    have:=h2.at_;rw[z,oL3.at_]at this;cases this
   rw[i0 this];exact h2.fr
  |false =>
   have ht:=vH hany3 hf;have hmu:(match H3 dn with
     |some (.dT kn)=>64-kn.length
     |_=>0)=64-es.length:=by rw[on3.at_];show 64-kn.length=_;rw[hln]
   have hfu1:∃ f',fu=f'+1:=(l9 (fu-1) (by
    have:FUEL=65538:=rfl;omega))
   obtain⟨f',rfl⟩:=hfu1;have k4:=yg hle ht k3;have ho3:=ho.ext e3 (by simpa using ndr);have hdd:d≠dn:=λz=>by have:=ho.at_;rw[z,hdn]at this;cases this
   have hLr:L≠r:=λz=>by
    obtain⟨_,dx,t,tk,h2,_,_⟩:=hR3;have:=h2.at_;rw[<-z,oL3.at_]at this;cases this
   refine eV (g9 _ rfl (.inl ⟨rfl,l9 _ (C9.of oL3.at_)⟩) (a0 _ rfl (a0 _ rfl (a0 _ rfl (p9 G3 r b p3 d (p9 kvs gl dn kn es ⟨rfl,e3.sub,hR3,ho3,hg.mono e3.grow,on3,hkn,hln,hdd,hle,ht,?_⟩))))));unfold PK;have hbr:=Ma.d5 (Ma.gq gl es (i9 b p3).1) (λe=>Ln.Text.elems gl (f'+1) (es++[e])) (Lx b p3);unfold PK at k4;cases hx:Ma.gq gl es (i9 b p3).1 (Lx b p3)with
   |error e=>rw[hx]at hbr;rw[hbr]at k4;exact k4
   |ok x =>
    obtain⟨e,l'⟩:=x;rw[hx]at hbr;rw[hbr]at k4;intro p5 hl5 hlt v5 G5 H5 kn5 e5 hR5 on5 hkn5 hln5 hel;have hl5':l'=Lx b p5:=hl5;subst hl5';have k5:PK CF (Ln.Text.elems gl (f'+1) (es++[e])) (λes p'=>∀ v G' H',j6 [r] G H G' H'->D1 K CR G' H' r b p'->dZ K CE G' v es gl->es.length<=64->Q v H') b p5 E:=k4;have oL5:=oL3.ext e5 (by simp[hLr,hLd]);have hvl:=Paired.length hpd;refine z8 L _ _ rfl rfl oL5.at_ (Nat.lt_of_le_of_lt (show vs.length<=64 by omega) (by decide)) ?_;have e35:j6 [r] G H G5 H5:=j6.drop hdn (j6.swap ((j6.two e3).trans e5));have e6:=e35.put (.inl hL0) oL5.fr (o:=.lst (vs++[v5]));have e56:j6 [L] G5 H5 G5 (i8 H5 L (.lst (vs++[v5]))):=(j6.refl e5.sub).put (.inr (by simp)) oL5.fr;have hR6:=hR5.ext e56 (by simpa using λz=>hLr z.symm);have on6:=on5.ext e56 (by simpa using λz=>hLd z.symm);have oL6:M7 G5 (i8 H5 L (.lst (vs++[v5]))) L (.lst (vs++[v5])):=⟨c9,oL5.fr⟩;generalize i8 H5 L (.lst (vs++[v5]))=H6 at e6 e56 hR6 on6 oL6;refine M9 r rfl (hR6.m m4) (by show 4<=sizeLine;decide) (λt7 ht7=>?_);have e7:=e6.lay ht7 (o:=.tup [.str "surface",.str "mirror",.str "stop",.str "end"]);have e67:j6 [] G5 H6 _ _:=(j6.refl e6.sub).lay ht7 (o:=.tup [.str "surface",.str "mirror",.str "stop",.str "end"]);have on7:=on6.ext e67 (by simp);refine L9 _ r b p5 t7 four rfl e7.sub (hR6.ext e67 (by simp)) (.of c9) (by decide +kernel) (fb k5 λhb7 hany7=>⟨⟨rfl,p9 _ p5 kn5 (vs++[v5]) (es++[e]) (l9 f' ⟨e7,hR6.ext e67 (by simp),on7,oL6.ext e67 (by simp),hkn5,?_,?_,?_,?_,hany7,k5⟩)⟩,?_⟩)
    ·rw[List.length_append];exact hln5
    ·exact Paired.snoc (Paired.map' (λ_ _ z=>(z.mono e5.grow).mono e67.grow) hpd) (hel.mono e67.grow)
    ·rw[List.length_append];show es.length+1<=64;omega
    ·rw[List.length_append];show f'+1+(es.length+1)=FUEL;omega
    ·rw[hmu,on7.at_];show 64-kn5.length<_;rw[hln5];omega
noncomputable def sf (m p:V):List (Str×V):=C3 "path" p (C3 "medium" m [])
structure Ts (K:W.Frag)(CS:Addr):Prop where
 cl:kZ K CS
 n1:t8 K CS "medium"
 n2:t8 K CS "path"
def EX (CS:Addr):Sp:=λvs H Q _=>∃ (x dx:Addr) (a1 a2:V),vs=[.ref x,a1,a2]/\H x=some (.ins CS dx [])/\Q .non (i8 H x (.ins CS dx (sf a1 a2)))
theorem Ff:i6 ["self","medium","path"] ["self","medium","path"] (d8 X3):=⟨rfl,rfl,rfl,by decide +kernel,rfl,by decide +kernel,by decide +kernel⟩
theorem Ft {f:Addr}{fd:FuncData}(F:F1 K "__init__" "System.__init__" X3 f fd)(T:Ts K CS):o8 prog w K mg base (A7 prog w) 1 f fd ["self","medium","path"] (EX CS):=by
 refine F.okX Ff (λvs H Q E h=>?_) (λcdv A outer s H vs Q E hr h=>?_)
 ·obtain⟨x,dx,a1,a2,rfl,_⟩:=h;rfl
 ·obtain⟨x,dx,a1,a2,rfl,hx,k⟩:=h;refine a0 _ (c8 (C4 (pv 0) (pv 1) rfl) (d7 (C4 (pv 0) (pv 2) rfl))) ?_;refine a0 _ rfl (a0 _ rfl (l8 x CS dx _ rfl hx T.cl T.n1 (by show 0<1000;decide) ?_));refine a0 _ rfl (a0 _ rfl (l8 x CS dx _ rfl c9 T.cl T.n2 (by show 1<1000;decide) ?_));rw[A8];exact k
structure pE (K:W.Frag)(CS CE:Addr)(G:Hp)(v:V)(s:System_):Prop where
 ex:∃ x dx vm vp,v=.ref x/\G x=some (.ins CS dx (sf vm vp))/\qM K G vm (Ma.triple s s.start)/\dZ K CE G vp s.elems s.glasses
 ok:cI s.glasses
 st:s.start<s.glasses.length
 le:s.elems.length<=64
noncomputable def vU:P System_:=(Ln.Text.glass [] >>= λg=>Ln.Text.glasses FUEL [g]) >>= λl=>Ma.A4 (.w "start") >>= λ_=>Ln.Text.glassNamed l >>= λm=>Ma.A4 (.m 59) >>= λ_=>Ln.Text.elems l FUEL [] >>= λes=>pure ⟨l,m,es⟩
theorem BF:Ln.Text.system=vU:=by
 unfold vU;rw[Ma.cG];show(Ln.Text.glass [] >>= λg=>Ln.Text.glasses FUEL [g] >>= λl=>Ln.Text.word "start" >>= λ_=>Ln.Text.glassNamed l >>= λm=>Ln.Text.mark 59 >>= λ_=>Ln.Text.elems l FUEL [] >>= λes=>(pure ⟨l,m,es⟩:P System_))=_;refine Ma.C8 λg=>Ma.C8 λl=>?_;rw[Ma.fF];refine Ma.C8 λ_=>Ma.C8 λm=>?_;rw[Ma.fG]
def EA (K:W.Frag)(CS CE CF:Addr)(G H:Hp)(b:Bytes)(Q:VK)(E:XK):Prop:=match Ln.Text.read b with
 |.ok s=>∀ v G' H',j6 [] G H G' H'->pE K CS CE G' v s->Q v H'
 |.error e=>ee CF E e
def AR (K:W.Frag)(CS CE CF:Addr):Sp:=λvs H Q E=>∃ (G:Hp) (a:V) (b:Bytes),vs=[a]/\l7 G H/\Bs K G a b/\EA K CS CE CF G H b Q E
theorem lI:i6 ["text","reader","glasses","medium"] ["text"] (d8 W8):=⟨rfl,rfl,rfl,by decide +kernel,rfl,by decide +kernel,by decide +kernel⟩
theorem CA {f:Addr}{fd:FuncData}(F:F1 K "read_system" "read_system" W8 f fd)(T:Tn K mg CN CF CR)(D:pH w K mg base CR CF)(DR:EB prog w K mg base 6 CR "Reader" ["self","text"] (EZ K CR))(DS:EB prog w K mg base 1 CS "System" ["self","medium","path"] (EX CS))
  (Dg:B8 prog w K mg base 12 "read_glasses" ["reader"] (ka K CR CF)) (Dk:B8 prog w K mg base 8 "read_known_glass" ["reader","glasses"] (lC K CR CF)) (Dp:B8 prog w K mg base 13 "read_path" ["reader","glasses"] (wd K CR CF CE)) :
  o8 prog w K mg base (A7 prog w) 14 f fd ["text"] (AR K CS CE CF):=by
 refine F.okX lI (λvs H Q E h=>?_) (λcdv A outer s H vs Q E hr h=>?_)
 ·obtain⟨G,a,b,rfl,_⟩:=h;rfl
 ·obtain⟨G,a,b,rfl,sm,ha,kk⟩:=h;have hr2:=hr.mono (show 2<=13 by decide);have hr7:=hr.mono (show 7<=13 by decide);have hr8:=hr.mono (show 8<=13 by decide);have hr12:=hr.mono (show 12<=13 by decide);refine a0 _ (c8 (i7 (i:=1) lI.nd rfl (Or.inl rfl) (iV DR hr7 d6 (c7 (pv 0) d4)))
   (c8 (i7 (i:=2) lI.nd rfl (Or.inl rfl) (d9 Dg hr12 d6 (c7 (pv 1) d4)))
   (c8 (j8 (cO D.take T.cl hr7 d6 (pv 1) (c7 j9 d4)))
   (c8 (i7 (i:=3) lI.nd rfl (Or.inl rfl) (d9 Dk hr8 d6 (c7 (pv 1) (c7 (pv 2) d4))))
   (c8 (j8 (cO D.take T.cl hr7 d6 (pv 1) (c7 j9 d4)))
   (d7 (j1 (iV DS hr2 d6 (c7 (pv 3) (c7 (d9 Dp hr d6 (c7 (pv 1) (c7 (pv 2) d4))) d4)))))))))) ?_
  refine a0 _ rfl (λr dx hrn hdn hne=>?_);have e0:j6 [] G H G (i8 H dx (.own r)):=(j6.refl sm).lend hdn;have hr1:i8 H dx (.own r) r=none:=by rw[i0 (λz=>hne z.symm)];exact hrn
  have e1:=e0.lend hr1 (o:=.ins CR dx []);refine C1 G r dx a b rfl e1.sub ⟨c9,sm.free hrn⟩ ha (λG2 H2 e2 hR2=>⟨rfl,?_⟩);have e02:j6 [r] G H G2 H2:=e1.up.trans e2;have k0:PK CF vU (λs _=>∀ v G' H',j6 [] G H G' H'->pE K CS CE G' v s->Q v H') b 0 E:=by
   unfold PK;unfold EA at kk;have er:Ln.Text.read b=(vU (Lx b 0)).map λx=>x.1:=by
    unfold Ln.Text.read;rw[BF,Ma.tD];rfl
   rw[er]at kk;cases hx:vU (Lx b 0)with
   |error e=>rw[hx]at kk;exact kk
   |ok x=>rw[hx]at kk;exact λ_ _=>kk
  refine a0 _ rfl ⟨System_,O0 G2 r b 0 (J5 _ _ rfl e2.sub hR2 k0 (λd G3 H3 p3 kvs gl e3 hR3 o3 hg3 hok3 k3=>?_))⟩;refine g9 r rfl (hR3.m m6) (C1 G3 r b p3 (.w "start") rfl e3.sub hR3 (by decide +kernel) (k3.take (by decide +kernel) λv4 G4 H4 _ e4 hR4 _ k4=>?_));have ndr:d≠r:=hR3.nd o3;have o4:=o3.ext e4 (by simpa using ndr);have hg4:=hg3.mono e4.grow;refine a0 _ rfl (a0 _ rfl (bM G4 r b _ d kvs gl rfl e4.sub hR4 o4 hg4 (k4.call λm v5 G5 H5 p5 hm5 e5 hR5 hv5 k5=>?_)));have o5:=o4.ext e5 (by simpa using ndr);refine g9 r rfl (hR5.m m6) (C1 G5 r b p5 (.m 59) rfl e5.sub hR5 (by decide +kernel) (k5.take (by decide +kernel) λv6 G6 H6 _ e6 hR6 _ k6=>?_));have o6:=o5.ext e6 (by simpa using ndr);have e06:j6 [r] G H G6 H6:=(((e02.trans e3).trans e4).trans e5).trans e6;refine a0 _ rfl (a0 _ rfl (a0 _ rfl (bM G6 r b _ d kvs gl rfl e6.sub hR6 o6 ((hg4.mono e5.grow).mono e6.grow) ?_)));unfold PK;have hbr:=Ma.d5 (Ln.Text.elems gl FUEL []) (λes=>(pure ⟨gl,m,es⟩:P System_)) (Lx b (u0 b p5+(i9 b p5).2));unfold PK at k6;cases hx:Ln.Text.elems gl FUEL [] (Lx b (u0 b p5+(i9 b p5).2))with
  |error e=>rw[hx]at hbr;rw[hbr]at k6;exact k6
  |ok x =>
   obtain⟨es,l'⟩:=x;rw[hx]at hbr;rw[hbr]at k6;intro p7 hl7 v7 G7 H7 e7 hR7 hpath hle7;have e07:j6 [] G H G7 H7:=j6.drop hrn (e06.trans e7);refine λx dx' hx hdx hne'=>?_;have eA:j6 [] G H G7 (i8 H7 dx' (.own x)):=e07.lend hdx;have hx1:i8 H7 dx' (.own x) x=none:=by rw[i0 (λz=>hne' z.symm)];exact hx
   refine q0 x dx' _ _ rfl c9 rfl ?_;rw[A8];have eC:=eA.lay hx1 (o:=.ins CS dx' (sf v5 v7));have gC:l7 G7 (i8 G7 x (.ins CS dx' (sf v5 v7))):=((j6.refl (M:=[]) eA.sub).lay hx1 (o:=.ins CS dx' (sf v5 v7))).grow;exact k6 p7 hl7 _ _ _ eC ⟨(q0 x dx' v5 v7 rfl c9 (hv5.mono ((e6.grow.trans e7.grow).trans gC)) (hpath.mono gC)),hok3,nY hm5,hle7⟩
open Ma (C0 K5)
noncomputable def R3 (a w b c d e f g:V):List (Str×V):=C3 "colour" g (C3 "conic" f (C3 "bend" e (C3 "square" d (C3 "behind" c (C3 "before" b (C3 "walk" w (C3 "stop" a [])))))))
structure dY (K:W.Frag)(CT:Addr)(G:Hp)(v:V)(t:C0):Prop where
 ex:∃ x dx vw vb vh vs vd vc vl,v=.ref x/\G x=some (.ins CT dx (R3 (.bl t.stop) vw vb vh vs vd vc vl))/\Fr K G vw t.walk/\Fr K G vb t.before/\Fr K G vh t.behind/\Fr K G vs t.square/\Fr K G vd t.bend/\Fr K G vc t.conic/\Fr K G vl t.colour
 ok:K5 t
theorem dY.mono {K:W.Frag}{CT:Addr}{G G':Hp}{v:V}{t:C0}(s:l7 G G')(h:dY K CT G v t):dY K CT G' v t:=by
 obtain⟨⟨x,dx,vw,vb,vh,vs,vd,vc,vl,h1,h2,a1,a2,a3,a4,a5,a6,a7⟩,ok⟩:=h;exact⟨(p9 x dx vw vb vh (O0 vs vd vc vl ⟨h1,s _ _ h2,Fr.mono _ _ _ _ s a1,Fr.mono _ _ _ _ s a2,Fr.mono _ _ _ _ s a3,Fr.mono _ _ _ _ s a4,Fr.mono _ _ _ _ s a5,Fr.mono _ _ _ _ s a6,Fr.mono _ _ _ _ s a7⟩)),ok⟩
theorem fE {K:W.Frag}{G:Hp}{v:V}{l:List Rat}(h:qM K G v l){j:Nat}{q:Rat}(hj:l[j]?=some q):∃ p xs u,v=.ref p/\W2 K G p xs/\uU xs (j:Int)=some u/\Fr K G u q:=by
 obtain⟨p,xs,e,hs,hp⟩:=h;have key:∀ {xs:List V}{l:List Rat},Paired (Fr K G) xs l->∀ {j:Nat}{q:Rat},l[j]?=some q->∃ u,xs[j]?=some u/\Fr K G u q:=by
  intro xs l hp
  induction hp with
  |nil=>intro j q h;cases h
  |@cons a b xs l h t ih =>
   intro j q hj;cases j with
   |zero=>cases hj;exact a0 a rfl h
   |succ j=>exact ih (j:=j) hj
 obtain⟨u,hu,hf⟩:=key hp hj;exact m8 p xs u e hs (mH hu) hf
structure Tt (K:W.Frag)(CT:Addr):Prop where
 cl:kZ K CT
 n1:t8 K CT "stop"
 n2:t8 K CT "walk"
 n3:t8 K CT "before"
 n4:t8 K CT "behind"
 n5:t8 K CT "square"
 n6:t8 K CT "bend"
 n7:t8 K CT "conic"
 n8:t8 K CT "colour"
def BI (K:W.Frag)(CT:Addr):Sp:=λvs H Q _=>∃ (x dx:Addr) (a1 a2:V),vs=[.ref x,a1,a2]/\H x=some (.ins CT dx [])/\∀ z,(∀ G,Fr K G z 0)->Q .non (i8 H x (.ins CT dx (R3 a1 a2 z z z z z z)))
theorem Fe:i6 ["self","stop","walk"] ["self","stop","walk"] (d8 T8):=⟨rfl,rfl,rfl,by decide +kernel,rfl,by decide +kernel,by decide +kernel⟩
theorem Fs {f:Addr}{fd:FuncData}(F:F1 K "__init__" "Station.__init__" T8 f fd)(T:Tt K CT)(Z:Tq K mg):o8 prog w K mg base (A7 prog w) 1 f fd ["self","stop","walk"] (BI K CT):=by
 refine F.okX Fe (λvs H Q E h=>?_) (λcdv A outer s H vs Q E hr h=>?_)
 ·obtain⟨x,dx,a1,a2,rfl,_⟩:=h;rfl
 ·obtain⟨x,dx,a1,a2,rfl,hx,k⟩:=h;obtain⟨aZ,mZ,hZ⟩:=Z.zero_;refine a0 _ (c8 (C4 (pv 0) (pv 1) rfl) (c8 (C4 (pv 0) (pv 2) rfl) (c8 (C4 (pv 0) (C6 (v:=.ref aZ) (by rfl) mZ rfl) rfl) (c8 (C4 (pv 0) (C6 (v:=.ref aZ) (by rfl) mZ rfl) rfl) (c8 (C4 (pv 0) (C6 (v:=.ref aZ) (by rfl) mZ rfl) rfl) (c8 (C4 (pv 0) (C6 (v:=.ref aZ) (by rfl) mZ rfl) rfl) (c8 (C4 (pv 0) (C6 (v:=.ref aZ) (by rfl) mZ rfl) rfl) (d7 (C4 (pv 0) (C6 (v:=.ref aZ) (by rfl) mZ rfl) rfl))))))))) ?_;refine a0 _ rfl (a0 _ rfl (l8 x CT dx _ rfl hx T.cl T.n1 (by show 0<1000;decide) ?_));refine a0 _ rfl (a0 _ rfl (l8 x CT dx _ rfl c9 T.cl T.n2 (by show 1<1000;decide) ?_));rw[A8];refine a0 _ rfl (l8 x CT dx _ rfl c9 T.cl T.n3 (by show 2<1000;decide) ?_);rw[A8];refine a0 _ rfl (l8 x CT dx _ rfl c9 T.cl T.n4 (by show 3<1000;decide) ?_);rw[A8];refine a0 _ rfl (l8 x CT dx _ rfl c9 T.cl T.n5 (by show 4<1000;decide) ?_);rw[A8];refine a0 _ rfl (l8 x CT dx _ rfl c9 T.cl T.n6 (by show 5<1000;decide) ?_);rw[A8];refine a0 _ rfl (l8 x CT dx _ rfl c9 T.cl T.n7 (by show 6<1000;decide) ?_);rw[A8];refine a0 _ rfl (l8 x CT dx _ rfl c9 T.cl T.n8 (by show 7<1000;decide) ?_);rw[A8];exact k (.ref aZ) λG=>(a0 aZ rfl (hZ _))
def AI (l:List Rat):Prop:=l.length=3/\∀ q∈l,1<=q/\Ma.Sz 60 q
theorem AI.get {l:List Rat}(h:AI l){j:Nat}(hj:j<3):l[j]?=some (l.getD j 1)/\1<=l.getD j 1/\Ma.Sz 60 (l.getD j 1)/\l.getD j 1≠0:=by
 have hlt:j<l.length:=by rw[h.1];exact hj
 have e:l[j]?=some (l.getD j 1):=by rw[List.getD_eq_getElem?_getD,List.getElem?_eq_getElem hlt];rfl
 have m:=h.2 _ (List.mem_of_getElem? e);refine⟨e,m.1,m.2,λz=>?_⟩;rw[z]at m;exact absurd m.1 (by decide)
def nv (K:W.Frag):Sp:=λvs H Q _=>∃ (G:Hp) (a:V) (l:List Rat) (line:Nat),vs=[a,.int (line:Int)]/\l7 G H/\qM K G a l/\AI l/\line<3/\∀ v G' H',j6 [] G H G' H'->Fr K G' v ((l.getD 1 1-l.getD 2 1)/l.getD line 1)->Q v H'
theorem BK:i6 ["medium","line"] ["medium","line"] (d8 iL):=⟨rfl,rfl,rfl,by decide +kernel,rfl,by decide +kernel,by decide +kernel⟩
theorem Ct {f:Addr}{fd:FuncData}(F:F1 K "spread" "spread" iL f fd)(Do:B8 prog w K mg base 3 "over" ["x","y"] (rq K yz λp q=>p/q))(Dm:B8 prog w K mg base 4 "minus" ["x","y"] (rq K mU λp q=>p-q)):o8 prog w K mg base (A7 prog w) 5 f fd ["medium","line"] (nv K):=by
 refine F.okX BK (λvs H Q E h=>?_) (λcdv A outer s H vs Q E hr h=>?_)
 ·obtain⟨G,a,l,line,rfl,_⟩:=h;rfl
 ·obtain⟨G,a,l,line,rfl,sm,ha,h3,hl,k⟩:=h;have hr3:=hr.mono (show 3<=4 by decide);refine a0 _ (d7 (j1 (d9 Do hr3 d6 (c7 (d9 Dm hr d6 (c7 (px 0 (pv 0)) (c7 (px 0 (pv 0)) d4))) (c7 (m7 r9 (pv 0) (pv 1) (λ_ _=>rfl)) d4))))) ?_;obtain⟨g1,_,s1,_⟩:=h3.get (j:=1) (by decide);obtain⟨g2,_,s2,_⟩:=h3.get (j:=2) (by decide);obtain⟨g3,_,s3,n3⟩:=h3.get hl;obtain⟨p,xs,u1,rfl,q1,a1,f1⟩:=fE ha g1;obtain⟨p',xs',u2,e2,q2,a2,f2⟩:=fE ha g2;cases e2;obtain⟨p',xs3,u3,e3,q3,a3,f3⟩:=fE ha g3;cases e3;refine m8 p _ _ rfl (sm.seqT q1) a1 (m8 p _ _ rfl (sm.seqT q2) a2 (l4 G _ _ _ _ rfl sm f1 f2 ⟨s1.mono (by decide),s2.mono (by decide)⟩ (λv G1 H1 e1 hv=>?_)));refine a0 _ rfl (a0 _ rfl (j5 p _ _ _ rfl rfl (e1.sub.seqT (e1.grow.seqT q3)) a3 (l4 G1 _ _ _ _ rfl e1.sub hv (Fr.mono _ _ _ _ e1.grow f3) ⟨(s1.sub s2).mono (by decide),s3.mono (by decide),n3⟩ (λv2 G2 H2 e2 h2=>k v2 G2 H2 (e1.trans e2) h2))))
theorem BJ:i6 ["x"] ["x"] (d8 fR):=⟨rfl,rfl,rfl,by decide +kernel,rfl,by decide +kernel,by decide +kernel⟩
theorem Cs {f:Addr}{fd:FuncData}(F:F1 K "squared" "squared" fR f fd)(Dt:B8 prog w K mg base 3 "times" ["x","y"] (rq K mU λp q=>p*q)):o8 prog w K mg base (A7 prog w) 4 f fd ["x"] (sp1 K qN λp=>p*p):=by
 refine F.okX BJ (λvs H Q E h=>?_) (λcdv A outer s H vs Q E hr h=>?_)
 ·obtain⟨G,a,p,rfl,_⟩:=h;rfl
 ·obtain⟨G,a,p,rfl,sm,ha,hs,k⟩:=h;refine a0 _ (d7 (j1 (d9 Dt hr d6 (c7 (pv 0) (c7 (pv 0) d4))))) ?_;exact a0 _ rfl (a0 _ rfl (l4 G _ _ p p rfl sm ha ha ⟨hs,hs⟩ k))
open Ma (Sz)
theorem pT (a w b c d e f g v:V):C3 "before" v (R3 a w b c d e f g)=R3 a w v c d e f g:=rfl
theorem pS (a w b c d e f g v:V):C3 "behind" v (R3 a w b c d e f g)=R3 a w b v d e f g:=rfl
theorem pQ (a w b c d e f g v:V):C3 "square" v (R3 a w b c d e f g)=R3 a w b c v e f g:=rfl
theorem vY (a w b c d e f g v:V):C3 "bend" v (R3 a w b c d e f g)=R3 a w b c d v f g:=rfl
theorem tL (a w b c d e f g v:V):C3 "conic" v (R3 a w b c d e f g)=R3 a w b c d e v g:=rfl
theorem pR (a w b c d e f g v:V):C3 "colour" v (R3 a w b c d e f g)=R3 a w b c d e f v:=rfl
theorem fc (a b c d e:V):(ef a b c d e).lookup ("word" : Str)=some a:=rfl
theorem Em (a b c d e:V):(ef a b c d e).lookup ("gap" : Str)=some b:=rfl
theorem fe (a b c d e:V):(ef a b c d e).lookup ("glass" : Str)=some c:=rfl
theorem yh (a b c d e:V):(ef a b c d e).lookup ("curve" : Str)=some d:=rfl
theorem yj (a b c d e:V):(ef a b c d e).lookup ("conic" : Str)=some e:=rfl
structure yA (w:World)(K:W.Frag)(mg:Str->Option Value)(base:Heap):Prop where
 neg:B8 prog w K mg base 1 "negative" ["x"] (sp1 K (λ_=>True) λp=>-p)
 plus:B8 prog w K mg base 3 "plus" ["x","y"] (rq K mU λp q=>p+q)
 minus:B8 prog w K mg base 4 "minus" ["x","y"] (rq K mU λp q=>p-q)
 times:B8 prog w K mg base 3 "times" ["x","y"] (rq K mU λp q=>p*q)
 over:B8 prog w K mg base 3 "over" ["x","y"] (rq K yz λp q=>p/q)
def rl (K:W.Frag)(CE CT:Addr):Sp:=λvs H Q _=>∃ (G:Hp) (x dx:Addr) (ve vn vm:V) (a1 a2 a3 a4 a5 a6 a7 a8:V) (el:Elem) (gl:List Glass) (n m:Rat),vs=[.ref x,ve,vn,vm]/\l7 G H/\M7 G H x (.ins CT dx (R3 a1 a2 a3 a4 a5 a6 a7 a8))/\gS K CE G ve el gl/\Fr K G vn n/\Fr K G vm m/\Sz 60 n/\Sz 60 m/\n≠0/\m≠0 /\
 ∀ G' H' vb vh vs vd vc,j6 [x] G H G' H'->M7 G' H' x (.ins CT dx (R3 a1 a2 vb vh vs vd vc a8))->Fr K G' vb (n*el.curve)->Fr K G' vh (m*el.curve)->Fr K G' vs (1/(m*m)-1/(n*n))->Fr K G' vd (el.curve*(1/m-1/n))->Fr K G' vc (el.conic*(el.curve*(el.curve*el.curve))*(m-n))->Q .non H'
theorem wz:i6 ["station","element","n","m","curve"] ["station","element","n","m"] (d8 Q3):=⟨rfl,rfl,rfl,by decide +kernel,rfl,by decide +kernel,by decide +kernel⟩
theorem Cw {f:Addr}{fd:FuncData}(F:F1 K "shape_station" "shape_station" Q3 f fd)(T:Tt K CT)(TE:Te K CE)(Z:Tq K mg)(D:yA w K mg base)(Ds:B8 prog w K mg base 4 "squared" ["x"] (sp1 K qN λp=>p*p)):o8 prog w K mg base (A7 prog w) 5 f fd ["station","element","n","m"] (rl K CE CT):=by
 refine F.okX wz (λvs H Q E h=>?_) (λcdv A outer s H vs Q E hr h=>?_)
 ·obtain⟨G,x,dx,ve,vn,vm,a1,a2,a3,a4,a5,a6,a7,a8,el,gl,n,m,rfl,_⟩:=h;rfl
 ·obtain⟨G,x,dx,ve,vn,vm,a1,a2,a3,a4,a5,a6,a7,a8,el,gl,n,m,rfl,sm,ho,hel,hn,hm,sn,sm',n0,m0,k⟩:=h;have hr3:=hr.mono (show 3<=4 by decide);obtain⟨aO,mO,hO⟩:=Z.one_;have one:∀ G,Fr K G (.ref aO) 1:=λG=>(a0 aO rfl (hO _));obtain⟨⟨xe,dxe,vg,vl,vc,vk,rfl,hxe,_,hc,hk,_⟩,_,sc,sk⟩:=hel;refine a0 _ (c8 (i7 (i:=4) wz.nd rfl (Or.inl rfl) (t9 (pv 1) rfl))
   (c8 (C4 (pv 0) (d9 D.times hr3 d6 (c7 (pv 2) (c7 (pv 4) d4))) rfl)
   (c8 (C4 (pv 0) (d9 D.times hr3 d6 (c7 (pv 3) (c7 (pv 4) d4))) rfl)
   (c8 (C4 (pv 0) (d9 D.minus hr d6 (c7 (d9 D.over hr3 d6 (c7 (C6 (v:=.ref aO) (by rfl) mO rfl) (c7 (d9 Ds hr d6 (c7 (pv 3) d4)) d4))) (c7 (d9 D.over hr3 d6 (c7 (C6 (v:=.ref aO) (by rfl) mO rfl) (c7 (d9 Ds hr d6 (c7 (pv 2) d4)) d4))) d4))) rfl)
   (c8 (C4 (pv 0) (d9 D.times hr3 d6 (c7 (pv 4) (c7 (d9 D.minus hr d6 (c7 (d9 D.over hr3 d6 (c7 (C6 (v:=.ref aO) (by rfl) mO rfl) (c7 (pv 3) d4))) (c7 (d9 D.over hr3 d6 (c7 (C6 (v:=.ref aO) (by rfl) mO rfl) (c7 (pv 2) d4))) d4))) d4))) rfl)
   (d7 (C4 (pv 0) (d9 D.times hr3 d6 (c7 (d9 D.times hr3 d6 (c7 (t9 (pv 1) rfl) (c7 (d9 D.times hr3 d6 (c7 (pv 4) (c7 (d9 Ds hr d6 (c7 (pv 4) d4)) d4))) d4))) (c7 (d9 D.minus hr d6 (c7 (pv 3) (c7 (pv 2) d4))) d4))) rfl))))))) ?_
  have big:∀ {j:Nat}{q:Rat},Sz j q->j<=30000000->qN q:=λh le=>h.mono le;have hmm:m*m≠0:=Ma.B2 m0 m0;have hnn:n*n≠0:=Ma.B2 n0 n0;refine a0 _ rfl (l4 xe CE dxe _ _ rfl (sm _ _ hxe) TE.cl TE.n4 (yh _ _ _ _ _) ?_);refine a0 _ rfl (a0 _ rfl (l4 G _ _ n el.curve rfl sm hn hc ⟨big sn (by decide),big sc (by decide)⟩ (λvb G1 H1 e1 f1=>?_)));have o1:=ho.ext e1 (by simp);refine a0 _ rfl (l8 x CT dx _ rfl o1.at_ T.cl T.n3 (by show 8<1000;decide) ?_);rw[pT];have E1:j6 [x] G H G1 (i8 H1 x (.ins CT dx (R3 a1 a2 vb a4 a5 a6 a7 a8))):=e1.up.put (.inr (by simp)) o1.fr;have p1:M7 G1 (i8 H1 x (.ins CT dx (R3 a1 a2 vb a4 a5 a6 a7 a8))) x (.ins CT dx (R3 a1 a2 vb a4 a5 a6 a7 a8)):=⟨c9,o1.fr⟩;generalize i8 H1 x (.ins CT dx (R3 a1 a2 vb a4 a5 a6 a7 a8))=J1 at E1 p1;refine a0 _ rfl (a0 _ rfl (l4 G1 _ _ m el.curve rfl E1.sub (Fr.mono _ _ _ _ E1.grow hm) (Fr.mono _ _ _ _ E1.grow hc) ⟨big sm' (by decide),big sc (by decide)⟩ (λvh G2 H2 e2 f2=>?_)));have o2:=p1.ext e2 (by simp);refine a0 _ rfl (l8 x CT dx _ rfl o2.at_ T.cl T.n4 (by show 8<1000;decide) ?_);rw[pS];have E2:j6 [x] G H G2 (i8 H2 x (.ins CT dx (R3 a1 a2 vb vh a5 a6 a7 a8))):=(E1.tr0 e2).put (.inr (by simp)) o2.fr;have p2:M7 G2 (i8 H2 x (.ins CT dx (R3 a1 a2 vb vh a5 a6 a7 a8))) x (.ins CT dx (R3 a1 a2 vb vh a5 a6 a7 a8)):=⟨c9,o2.fr⟩;generalize i8 H2 x (.ins CT dx (R3 a1 a2 vb vh a5 a6 a7 a8))=J2 at E2 p2;refine a0 _ rfl (z8 G2 _ m rfl E2.sub (Fr.mono _ _ _ _ E2.grow hm) (big sm' (by decide)) (λv3 G3 H3 e3 f3=>?_));refine l4 G3 _ _ 1 (m*m) rfl e3.sub (one _) f3 ⟨big EW (by decide),big (sm'.mul sm') (by decide),hmm⟩ (λv4 G4 H4 e4 f4=>?_);refine a0 _ rfl (z8 G4 _ n rfl e4.sub (Fr.mono _ _ _ _ ((E2.grow.trans e3.grow).trans e4.grow) hn) (big sn (by decide)) (λv5 G5 H5 e5 f5=>?_));refine l4 G5 _ _ 1 (n*n) rfl e5.sub (one _) f5 ⟨big EW (by decide),big (sn.mul sn) (by decide),hnn⟩ (λv6 G6 H6 e6 f6=>?_);refine l4 G6 _ _ (1/(m*m)) (1/(n*n)) rfl e6.sub (Fr.mono _ _ _ _ (e5.grow.trans e6.grow) f4) f6 ⟨big (S6 (sm'.mul sm') hmm) (by decide),big (S6 (sn.mul sn) hnn) (by decide)⟩ (λvs7 G7 H7 e7 f7=>?_);have e27:j6 [] G2 J2 G7 H7:=(((e3.trans e4).trans e5).trans e6).trans e7;have o7:=p2.ext e27 (by simp);refine a0 _ rfl (l8 x CT dx _ rfl o7.at_ T.cl T.n5 (by show 8<1000;decide) ?_);rw[pQ];have E7:j6 [x] G H G7 (i8 H7 x (.ins CT dx (R3 a1 a2 vb vh vs7 a6 a7 a8))):=(E2.tr0 e27).put (.inr (by simp)) o7.fr;have p7:M7 G7 (i8 H7 x (.ins CT dx (R3 a1 a2 vb vh vs7 a6 a7 a8))) x (.ins CT dx (R3 a1 a2 vb vh vs7 a6 a7 a8)):=⟨c9,o7.fr⟩;generalize i8 H7 x (.ins CT dx (R3 a1 a2 vb vh vs7 a6 a7 a8))=J7 at E7 p7;refine a0 _ rfl (a0 _ rfl (l4 G7 _ _ 1 m rfl E7.sub (one _) (Fr.mono _ _ _ _ E7.grow hm) ⟨big EW (by decide),big sm' (by decide),m0⟩ (λv8 G8 H8 e8 f8=>?_)));refine a0 _ rfl (l4 G8 _ _ 1 n rfl e8.sub (one _) (Fr.mono _ _ _ _ (E7.grow.trans e8.grow) hn) ⟨big EW (by decide),big sn (by decide),n0⟩ (λv9 G9 H9 e9 f9=>?_));refine l4 G9 _ _ (1/m) (1/n) rfl e9.sub (Fr.mono _ _ _ _ e9.grow f8) f9 ⟨big (S6 sm' m0) (by decide),big (S6 sn n0) (by decide)⟩ (λv10 G10 H10 e10 f10=>?_);have e710:j6 [] G7 J7 G10 H10:=(e8.trans e9).trans e10;refine l4 G10 _ _ el.curve (1/m-1/n) rfl e10.sub (Fr.mono _ _ _ _ (E7.grow.trans e710.grow) hc) f10 ⟨big sc (by decide),big ((S6 sm' m0).sub (S6 sn n0)) (by decide)⟩ (λvd G11 H11 e11 f11=>?_);have e711:j6 [] G7 J7 G11 H11:=e710.trans e11;have o11:=p7.ext e711 (by simp);refine a0 _ rfl (l8 x CT dx _ rfl o11.at_ T.cl T.n6 (by show 8<1000;decide) ?_);rw[vY];have E11:j6 [x] G H G11 (i8 H11 x (.ins CT dx (R3 a1 a2 vb vh vs7 vd a7 a8))):=(E7.tr0 e711).put (.inr (by simp)) o11.fr;have p11:M7 G11 (i8 H11 x (.ins CT dx (R3 a1 a2 vb vh vs7 vd a7 a8))) x (.ins CT dx (R3 a1 a2 vb vh vs7 vd a7 a8)):=⟨c9,o11.fr⟩;generalize i8 H11 x (.ins CT dx (R3 a1 a2 vb vh vs7 vd a7 a8))=J11 at E11 p11;refine a0 _ rfl (l4 xe CE dxe _ _ rfl (E11.sub _ _ (E11.grow _ _ hxe)) TE.cl TE.n5 (yj _ _ _ _ _) ?_);refine a0 _ rfl (a0 _ rfl (z8 G11 _ el.curve rfl E11.sub (Fr.mono _ _ _ _ E11.grow hc) (big sc (by decide)) (λv12 G12 H12 e12 f12=>?_)));refine l4 G12 _ _ el.curve (el.curve*el.curve) rfl e12.sub (Fr.mono _ _ _ _ (E11.grow.trans e12.grow) hc) f12 ⟨big sc (by decide),big (sc.mul sc) (by decide)⟩ (λv13 G13 H13 e13 f13=>?_);refine l4 G13 _ _ el.conic (el.curve*(el.curve*el.curve)) rfl e13.sub (Fr.mono _ _ _ _ ((E11.grow.trans e12.grow).trans e13.grow) hk) f13 ⟨big sk (by decide),big (sc.mul (sc.mul sc)) (by decide)⟩ (λv14 G14 H14 e14 f14=>?_);have e1114:j6 [] G11 J11 G14 H14:=(e12.trans e13).trans e14;refine a0 _ rfl (a0 _ rfl (l4 G14 _ _ m n rfl e14.sub (Fr.mono _ _ _ _ (E11.grow.trans e1114.grow) hm) (Fr.mono _ _ _ _ (E11.grow.trans e1114.grow) hn) ⟨big sm' (by decide),big sn (by decide)⟩ (λv15 G15 H15 e15 f15=>?_)));refine l4 G15 _ _ (el.conic*(el.curve*(el.curve*el.curve))) (m-n) rfl e15.sub (Fr.mono _ _ _ _ e15.grow f14) f15 ⟨big (sk.mul (sc.mul (sc.mul sc))) (by decide),big (sm'.sub sn) (by decide)⟩ (λvc16 G16 H16 e16 f16=>?_);have e1116:j6 [] G11 J11 G16 H16:=(e1114.trans e15).trans e16;have o16:=p11.ext e1116 (by simp);refine a0 _ rfl (l8 x CT dx _ rfl o16.at_ T.cl T.n7 (by show 8<1000;decide) ?_);rw[tL];have E16:j6 [x] G H G16 (i8 H16 x (.ins CT dx (R3 a1 a2 vb vh vs7 vd vc16 a8))):=(E11.tr0 e1116).put (.inr (by simp)) o16.fr;refine k _ _ _ _ _ _ _ E16 ⟨c9,o16.fr⟩ ?_ ?_ ?_ ?_ f16
  ·exact Fr.mono _ _ _ _ (((e2.grow.trans e27.grow).trans e711.grow).trans e1116.grow) f1
  ·exact Fr.mono _ _ _ _ ((e27.grow.trans e711.grow).trans e1116.grow) f2
  ·exact Fr.mono _ _ _ _ (e711.grow.trans e1116.grow) f7
  ·exact Fr.mono _ _ _ _ e1116.grow f11
structure aw (s:System_):Prop where
 gl:cI s.glasses
 st:s.start<s.glasses.length
 el:∀ i m,(s.elem i).kind=.surface m->m<s.glasses.length
 sz:∀ i,Sz 60 (s.elem i).gap/\Sz 60 (s.elem i).curve/\Sz 60 (s.elem i).conic
theorem aw.med {s:System_}(h:aw s):∀ i,s.medium i<s.glasses.length
 |0=>h.st
 |i+1=>by
  rw[Ma.gy];cases hk:(s.elem i).kind with
  |surface m=>exact h.el i m hk
  |mirror=>exact h.med i
  |halt_=>exact h.med i
theorem aw.tri {s:System_}(h:aw s){g:Nat}(hg:g<s.glasses.length):AI (Ma.triple s g):=by
 rcases Ma.iq h.gl g with z|z
 ·exfalso;have:(s.glasses.map λ(x:Glass)=>x.index)[g]?=some (s.glasses[g]).index:=by rw[List.getElem?_map,List.getElem?_eq_getElem hg];rfl
  have e:Ma.triple s g=(s.glasses[g]).index:=by
   unfold Ma.triple;rw[List.getD_eq_getElem?_getD,this];rfl
  have:=(h.gl _ (List.getElem_mem hg)).1;rw[<-e,z]at this;cases this
 ·exact z
noncomputable def gi (s:System_)(line i:Nat):Rat:=(Ma.triple s (s.medium i)).getD line 1
theorem yb (s:System_)(line i:Nat):s.glassIndex (s.medium i) line=gi s line i:=rfl
theorem aw.gi {s:System_}(h:aw s){line:Nat}(hl:line<3)(i:Nat):Sz 60 (gi s line i)/\gi s line i≠0:=by
 have:=(h.tri (h.med i)).get hl;exact⟨this.2.2.1,this.2.2.2⟩
theorem aw.ix {s:System_}(h:aw s){line:Nat}(hl:line<3)(i:Nat):Sz 60 (s.index line i)/\s.index line i≠0:=by
 obtain⟨h1,h2⟩:=h.gi hl i;refine⟨?_,Ma.oV h.gl line i⟩;rw[Ma.dQ,yb];split
 ·exact h1.neg
 ·exact h1
theorem aw.spr {s:System_}(h:aw s){line:Nat}(hl:line<3)(i:Nat):Sz 181 (Ln.spreads s line i):=by
 rw[Ma.M4 s line i (h.gi hl i).2];exact(((h.gi (line:=1) (by decide) i).1.sub (h.gi (line:=2) (by decide) i).1).quo (h.gi hl i).1 (h.gi hl i).2).mono (by decide)
theorem aw.stn {s:System_}(h:aw s){line:Nat}(hl:line<3)(i:Nat):K5 (Ma.B1 s line i):=by
 obtain⟨sg,sc,sk⟩:=h.sz i;obtain⟨n1,n2⟩:=h.ix hl i;obtain⟨m1,m2⟩:=h.ix hl (i+1);have hw:Sz 130 (s.gap i/s.index line i):=by
  rw[Ma.qX s line i (h.gi hl i).2];exact(sg.quo (h.gi hl i).1 (h.gi hl i).2).mono (by decide)
 have z:Sz 130 0:=nq.mono (by decide);have z4:Sz 400 0:=nq.mono (by decide);have full:K5 ⟨false,s.gap i/s.index line i,s.index line i*(s.elem i).curve,s.index line (i+1)*(s.elem i).curve,1/(s.index line (i+1)*s.index line (i+1))-1/(s.index line i*s.index line i),(s.elem i).curve*(1/s.index line (i+1)-1/s.index line i),(s.elem i).conic*((s.elem i).curve*((s.elem i).curve*(s.elem i).curve))*(s.index line (i+1)-s.index line i),Ln.spreads s line (i+1)-Ln.spreads s line i⟩ :=
  ⟨hw,(n1.mul sc).mono (by decide),(m1.mul sc).mono (by decide),((S6 (m1.mul m1) (Ma.B2 m2 m2)).sub (S6 (n1.mul n1) (Ma.B2 n2 n2))).mono (by decide),(sc.mul ((S6 m1 m2).sub (S6 n1 n2))).mono (by decide),((sk.mul (sc.mul (sc.mul sc))).mul (m1.sub n1)).mono (by decide),((h.spr hl (i+1)).sub (h.spr hl i)).mono (by decide)⟩
 unfold Ma.B1;cases(s.elem i).kind with
 |halt_=>exact⟨hw,z,z,z4,z4,z4,z4⟩
 |mirror=>exact full
 |surface m=>exact full
theorem mz {s:System_}{i:Nat}{e:Elem}(h:s.elems[i]?=some e):s.elem i=e:=by
 unfold System_.elem;rw[List.getD_eq_getElem?_getD,h];rfl
theorem D0 {α β:Type}{R:α->β->Prop}{xs:List α}{ys:List β}(h:Paired R xs ys):∀ {i:Nat}{x:α},xs[i]?=some x->∃ y,ys[i]?=some y/\R x y:=by
 induction h with
 |nil=>intro i x e;cases e
 |@cons a b l m h t ih =>
  intro i x e;cases i with
  |zero=>cases e;exact a0 b rfl h
  |succ i=>exact ih (i:=i) e
theorem pk {s:System_}{i:Nat}(h:s.elems[i]?=none):s.elem i=Ln.noElem:=by
 unfold System_.elem;rw[List.getD_eq_getElem?_getD,h];rfl
theorem pE.sok {G:Hp}{v:V}{s:System_}(h:pE K CS CE G v s):aw s:=by
 obtain⟨⟨x,dx,vm,vp,_,_,_,L,vs,_,_,hp⟩,ok,st,le⟩:=h;have key:∀ (i:Nat) (e:Elem),s.elems[i]?=some e->∃ v,gS K CE G v e s.glasses:=by
  intro i e he;have:∀ {xs:List V}{ys:List Elem},Paired (λv e=>gS K CE G v e s.glasses) xs ys->∀ {i:Nat}{y:Elem},ys[i]?=some y->∃ v,gS K CE G v y s.glasses:=by
   intro xs ys hp
   induction hp with
   |nil=>intro i y e;cases e
   |@cons a b l m h t ih =>
    intro i y e;cases i with
    |zero=>cases e;exact l9 a h
    |succ i=>exact ih (i:=i) e
  exact this hp he
 refine⟨ok,st,λi m hk=>?_,λi=>?_⟩
 ·cases he:s.elems[i]? with
  |none=>rw[pk he]at hk;cases hk
  |some e =>
   obtain⟨v,⟨_,_,_,_,_,_,_,_,_,_,_,h6⟩,_,_,_⟩:=key i e he;rw[mz he]at hk;rw[hk]at h6;exact h6.2
 ·cases he:s.elems[i]? with
  |none=>rw[pk he];exact⟨nq,nq,nq⟩
  |some e =>
   obtain⟨v,_,h1,h2,h3⟩:=key i e he;rw[mz he];exact⟨h1,h2,h3⟩
def jH (K:W.Frag)(CT:Addr)(G:Hp)(v:V)(ts:List C0):Prop:=∃ L vs,v=.ref L/\G L=some (.lst vs)/\Paired (dY K CT G) vs ts
def iB (K:W.Frag)(CS CE CT:Addr):Sp:=λvs H Q _=>∃ (G:Hp) (a:V) (s:System_) (line:Nat),vs=[a,.int (line:Int)]/\l7 G H/\pE K CS CE G a s/\line<3/\∀ v G' H',j6 [] G H G' H'->jH K CT G' v (Ma.bV s line)->Q v H'
theorem W3:i6 ["system","line","stations","medium","back","element","n","station","m"] ["system","line"] (d8 W6):=⟨rfl,rfl,rfl,by decide +kernel,rfl,by decide +kernel,by decide +kernel⟩
theorem tK (s:System_)(line i:Nat):(Ma.A2 s line 0 (i+1))=Ma.A2 s line 0 i++[Ma.B1 s line i]:=by
 unfold Ma.A2;rw[List.range'_1_concat,List.map_append,Nat.zero_add];rfl
theorem tP (m p:V):(sf m p).lookup ("medium" : Str)=some m:=rfl
theorem yS (m p:V):(sf m p).lookup ("path" : Str)=some p:=rfl
theorem ne_str {a b:Str}(h:a≠b):decide (V.str a=V.str b)=false:=decide_eq_false λz=>h (V.str.inj z)
theorem Bx (k:Ln.Kind):decide (V.str (lh k)=V.str "stop")=decide (k=.halt_):=by
 cases k with
 |surface m=>rw[decide_eq_false (λz:Ln.Kind.surface m=.halt_=>nomatch z)];exact ne_str Bc
 |mirror=>exact ne_str Bf
 |halt_=>rfl
theorem FH:("stop" : Str)≠"mirror":=by decide +kernel
theorem FG:("surface" : Str)≠"mirror":=by decide +kernel
theorem Fr.m {G G':Hp}{v:V}{q:Rat}(s:l7 G G')(h:Fr K G v q):Fr K G' v q:=L2.Fr.mono _ _ _ _ s h
theorem Cr {f:Addr}{fd:FuncData}(F:F1 K "stations_of" "stations_of" W6 f fd)(T:Tt K CT)(TE:Te K CE)(TS:Ts K CS)(D:yA w K mg base)(DT:EB prog w K mg base 1 CT "Station" ["self","stop","walk"] (BI K CT))(Dh:B8 prog w K mg base 5 "shape_station" ["station","element","n","m"] (rl K CE CT))(Dp:B8 prog w K mg base 5 "spread" ["medium","line"] (nv K)) :
  o8 prog w K mg base (A7 prog w) 6 f fd ["system","line"] (iB K CS CE CT):=by
 refine F.okX W3 (λvs H Q E h=>?_) (λcdv A outer s H vs Q E hr h=>?_)
 ·obtain⟨G,a,s,line,rfl,_⟩:=h;rfl
 ·obtain⟨G,a,y,line,rfl,sm,hsys,hl,k⟩:=h;have hr1:=hr.mono (show 1<=5 by decide);have hr2:=hr.mono (show 2<=5 by decide);have hr3:=hr.mono (show 3<=5 by decide);have hr4:=hr.mono (show 4<=5 by decide);have ok:=hsys.sok;have hcnt:y.count<=64:=hsys.le;obtain⟨⟨xS,dxS,vm,vp,rfl,hxS,htri,LP,ps,rfl,hLP,hpair⟩,_,_,_⟩:=hsys;refine a0 _ (c8 (i7 (i:=2) W3.nd rfl (Or.inl rfl) (C5 d4)) (c8 (i7 (i:=3) W3.nd rfl (Or.inl rfl) (t9 (pv 0) rfl)) (c8 (i7 (i:=4) W3.nd rfl (Or.inl rfl) km)
   (c8 (Q8 J3 rfl (K9 (t9 (pv 0) rfl)) (y9 (i:=5) W3.nd rfl (Or.inl rfl))
    (R5 (i7 (i:=6) W3.nd rfl (Or.inl rfl) (nM (E8 (pv 4)) (d9 D.neg hr1 d6 (c7 (m7 r9 (pv 3) (pv 1) (λ_ _=>rfl)) d4)) (m7 r9 (pv 3) (pv 1) (λ_ _=>rfl))))
    (c8 (i7 (i:=7) W3.nd rfl (Or.inl rfl) (iV DT hr2 d6 (c7 (V8 K2 (t9 (pv 5) rfl) j9 (n9 _)) (c7 (d9 D.over hr3 d6 (c7 (t9 (pv 5) rfl) (c7 (m7 r9 (pv 3) (pv 1) (λ_ _=>rfl)) d4))) d4))))
    (c8 (y2 (m9 K2 (t9 (pv 5) rfl) j9 (n9 _)) (c8 (i7 (i:=4) W3.nd rfl (Or.inl rfl) (Cd (pv 4))) (d7 (j8 (d9 Dh hr d6 (c7 (pv 7) (c7 (pv 5) (c7 (pv 6) (c7 (d9 D.neg hr1 d6 (c7 (pv 6) d4)) d4)))))))) l6)
    (R5 (y2 (m9 K2 (t9 (pv 5) rfl) j9 (n9 _))
     (R5 (i7 (i:=8) W3.nd rfl (Or.inl rfl) (nM (E8 (pv 4)) (d9 D.neg hr1 d6 (c7 (m7 r9 (t9 (pv 5) rfl) (pv 1) (λ_ _=>rfl)) d4)) (m7 r9 (t9 (pv 5) rfl) (pv 1) (λ_ _=>rfl))))
     (c8 (j8 (d9 Dh hr d6 (c7 (pv 7) (c7 (pv 5) (c7 (pv 6) (c7 (pv 8) d4))))))
     (c8 (C4 (pv 7) (d9 D.minus hr4 d6 (c7 (d9 Dp hr d6 (c7 (t9 (pv 5) rfl) (c7 (pv 1) d4))) (c7 (d9 Dp hr d6 (c7 (pv 3) (c7 (pv 1) d4))) d4))) rfl)
     (d7 (i7 (i:=3) W3.nd rfl (Or.inl rfl) (t9 (pv 5) rfl)))))) l6)
    (d7 (j8 (kl PySem.F.plainAttrs_list PySem.F.slot_list_append PySem.F.type_list_append Z8 (pv 2) (c7 (pv 7) d4)))))))))
   (d7 (j1 (pv 2))))))) ?_
  refine⟨(by show 0<=sizeLine;decide),λL hL=>?_⟩;have e0:j6 [] G H G (i8 H L (.lst [])):=(j6.refl sm).lend hL;have oL0:M7 G (i8 H L (.lst [])) L (.lst []):=⟨c9,sm.free hL⟩;refine a0 _ rfl (l4 xS CS dxS _ _ rfl (e0.sub _ _ hxS) TS.cl TS.n1 (tP _ _) ?_);refine a0 _ rfl (l4 xS CS dxS _ _ rfl (e0.sub _ _ hxS) TS.cl TS.n2 (yS _ _) (g9 LP rfl (l9 _ (C9.of (e0.sub _ _ hLP))) ?_));refine P7 (K:=K) (a:=LP) (xs:=ps) (λi σ H'=>∃ (G':Hp) (vmed:V) (vs:List V) (r5 r6 r7 r8:Option V),σ=[some (.ref xS),some (.int (line:Int)),some (.ref L),some vmed,some (.bl (Ma.back y i)),r5,r6,r7,r8]/\j6 [] G H G' H'/\M7 G' H' L (.lst vs)/\qM K G' vmed (Ma.triple y (y.medium i))/\Paired (dY K CT G') vs (Ma.A2 y line 0 i))
   (p9 G vm ([]) none none (J5 none none rfl e0 oL0 htri .nil)) (λi σ H' _ h0=>by obtain⟨G',_,_,_,_,_,_,_,e,_⟩:=h0;exact C9.of (e.sub _ _ (e.grow _ _ hLP))) ?_ ?_
  ·rintro i ve σ H1 hve ⟨G1,vmed,vs,r5,r6,r7,r8,rfl,e1,oL1,ht1,hp1⟩;obtain⟨el,hel,hE⟩:=D0 hpair hve;have hie:y.elem i=el:=mz hel;have hic:i<y.count:=(List.getElem?_eq_some_iff.mp hel).1;have g3:=ok.tri (ok.med i);obtain⟨ga,gb,gc,gd⟩:=g3.get hl;obtain⟨nS,n0⟩:=ok.ix hl i;have hix:=Ma.dQ y line i;rw[yb]at hix;refine a0 (λσ' H'=>∃ (G':Hp) (vn:V),σ'=[some (.ref xS),some (.int (line:Int)),some (.ref L),some vmed,some (.bl (Ma.back y i)),some ve,some vn,r7,r8]/\j6 [] G1 H1 G' H'/\Fr K G' vn (y.index line i)) ?_ ?_
   ·obtain⟨pm,xsm,um,rfl,qm,am,fm⟩:=fE ht1 ga;refine a0 _ rfl (a0 _ rfl (N9 (λhb=>?_) (λhb=>?_)))
    ·refine a0 _ rfl (a0 _ rfl (j5 pm _ _ _ rfl rfl (e1.sub.seqT qm) am (z8 G1 _ _ rfl e1.sub fm trivial (λv G2 H2 e2 f2=>(h9 G2 v rfl e2 ?_)))));rw[hix,if_pos hb];exact f2
    ·refine a0 _ rfl (a0 _ rfl (j5 pm _ _ _ rfl rfl (e1.sub.seqT qm) am (h9 G1 um rfl (j6.refl e1.sub) ?_)));rw[hix,if_neg (by rw[hb];decide)];exact fm
   rintro σ' H2 ⟨G2,vn,rfl,e2,fn⟩;have E2:=e1.trans e2;have oL2:=oL1.ext e2 (by simp);have ht2:=ht1.mono e2.grow;have hE2:=hE.mono E2.grow;have hE2':=hE2;obtain⟨⟨xe,dxe,vg,vl,vc,vk,rfl,hxe,hgap,_,_,hgl⟩,sg,sc,sk⟩:=hE2';have nL:∀ z,H z=none->True:=λ_ _=>trivial;obtain⟨pm,xsm,um,rfl,qm,am,fm⟩:=fE ht2 ga;refine a0 _ rfl (M0 xe CE dxe _ _ rfl (E2.sub _ _ hxe) TE.cl TE.n1 (fc _ _ _ _ _) rfl (a0 _ rfl (l4 xe CE dxe _ _ rfl (E2.sub _ _ hxe) TE.cl TE.n2 (Em _ _ _ _ _) (a0 _ rfl (a0 _ rfl (j5 pm _ _ _ rfl rfl (E2.sub.seqT qm) am (l4 G2 _ _ el.gap _ rfl E2.sub hgap fm ⟨sg.mono (by decide),gc.mono (by decide),gd⟩ (λvw G3 H3 e3 f3=>?_))))))));have E3:=E2.trans e3;refine λx dx hx hdx hne=>?_;have hx1:i8 H3 dx (.own x) x=none:=by rw[i0 (λz=>hne z.symm)];exact hx
   have e4:j6 [] G3 H3 G3 (i8 (i8 H3 dx (.own x)) x (.ins CT dx [])):=((j6.refl e3.sub).lend hdx).lend hx1;have hxH:H x=none:=E3.none_of hx;refine O0 x dx _ _ ⟨rfl,c9,λz hz=>⟨rfl,?_⟩⟩;rw[A8,Bx];have E4:j6 [] G H G3 (i8 (i8 H3 dx (.own x)) x (.ins CT dx (R3 (.bl (decide (el.kind=.halt_))) vw z z z z z z))):=(E3.lend hdx).lend hx1;have e34:j6 [] G3 H3 G3 (i8 (i8 H3 dx (.own x)) x (.ins CT dx (R3 (.bl (decide (el.kind=.halt_))) vw z z z z z z))):=((j6.refl e3.sub).lend hdx).lend hx1;have ox:M7 G3 (i8 (i8 H3 dx (.own x)) x (.ins CT dx (R3 (.bl (decide (el.kind=.halt_))) vw z z z z z z))) x (.ins CT dx (R3 (.bl (decide (el.kind=.halt_))) vw z z z z z z)):=⟨c9,e3.sub.free hx⟩;have oL4:=(oL2.ext e3 (by simp)).ext e34 (by simp);have nLx:L≠x:=j3 ((oL2.ext e3 (by simp)).at_) hx;generalize i8 (i8 H3 dx (.own x)) x (.ins CT dx (R3 (.bl (decide (el.kind=.halt_))) vw z z z z z z))=H4 at E4 e34 ox oL4;have g13:l7 G1 G3:=e2.grow.trans e3.grow;have hE4:=hE2.mono e3.grow;have hxe4:G3 xe=some (.ins CE dxe (ef (.str (lh el.kind)) vg vl vc vk)):=e3.grow _ _ hxe;have fn4:=Fr.m e3.grow fn;have hwalk:y.gap i/y.index line i=el.gap/(Ma.triple y (y.medium i)).getD line 1:=by
    rw[Ma.qX y line i gd,hie];rfl
   have f3':Fr K G3 vw (y.gap i/y.index line i):=by rw[hwalk];exact f3
   let Fin:L2.St->Hp->Prop:=λσ' H'=>∃ (G':Hp) (vmed':V) (r8':Option V) (vb vh vq vd vc' vl':V),σ'=[some (.ref xS),some (.int (line:Int)),some (.ref L),some vmed',some (.bl (Ma.back y (i+1))),some (.ref xe),some vn,some (.ref x),r8']/\j6 [] G H G' H'/\M7 G' H' L (.lst vs)/\l7 G3 G'/\qM K G' vmed' (Ma.triple y (y.medium (i+1)))/\M7 G' H' x (.ins CT dx (R3 (.bl (Ma.B1 y line i).stop) vw vb vh vq vd vc' vl'))/\Fr K G' vw (Ma.B1 y line i).walk/\Fr K G' vb (Ma.B1 y line i).before/\Fr K G' vh (Ma.B1 y line i).behind/\Fr K G' vq (Ma.B1 y line i).square/\Fr K G' vd (Ma.B1 y line i).bend/\Fr K G' vc' (Ma.B1 y line i).conic/\Fr K G' vl' (Ma.B1 y line i).colour;have hbs:=Ma.uO y i hic;have hms:=Ma.gy y i;rw[hie]at hbs hms;have fin:∀ σ' H',Fin σ' H'->AO (Hh K "list" rL (J6 2) (J8 (J6 7) fH)) { nx:=λσ H'=>∃ (G':Hp) (vmed:V) (vs:List V) (r5 r6 r7 r8:Option V),σ=[some (.ref xS),some (.int (line:Int)),some (.ref L),some vmed,some (.bl (Ma.back y (i+1))),r5,r6,r7,r8]/\j6 [] G H G' H'/\M7 G' H' L (.lst vs)/\qM K G' vmed (Ma.triple y (y.medium (i+1)))/\Paired (dY K CT G') vs (Ma.A2 y line 0 (i+1)),rt:=Q } σ' H':=by
    rintro σ' H5 ⟨G5,vmed',r8',vb,vh,vq,vd,vc',vl',rfl,E5,oL5,s35,ht5,ox5,b1,b2,b3,b4,b5,b6,b7⟩;have hvl:=Paired.length hp1;have hvl2:(Ma.A2 y line 0 i).length=i:=by unfold Ma.A2;rw[List.length_map,List.length_range']
    refine g9 _ rfl (.inl ⟨rfl,l9 _ (C9.of oL5.at_)⟩) (a0 _ rfl (z8 L _ _ rfl rfl oL5.at_ (Nat.lt_of_le_of_lt (show vs.length<=64 by omega) (by decide)) ?_));have E6:=E5.freeze ox5.at_ hxH;have sG:l7 G5 (i8 G5 x (.ins CT dx (R3 (.bl (Ma.B1 y line i).stop) vw vb vh vq vd vc' vl'))):=λc o hc=>by
     have:c≠x:=λz=>by rw[z,ox5.fr]at hc;cases hc
     rw[i0 this];exact hc
    have fL:i8 G5 x (.ins CT dx (R3 (.bl (Ma.B1 y line i).stop) vw vb vh vq vd vc' vl')) L=none:=by rw[i0 nLx];exact oL5.fr
    have E7:=E6.put (.inl hL) fL (o:=.lst (vs++[.ref x]));refine p9 _ vmed' (vs++[.ref x]) _ _ (J5 _ _ rfl E7 ⟨c9,fL⟩ (ht5.mono sG) ?_);rw[tK];refine Paired.snoc (Paired.map' (λ_ _ z=>((z.mono g13).mono s35).mono sG) hp1) ⟨(p9 x dx vw vb vh (O0 vq vd vc' vl' ⟨rfl,c9,Fr.m sG b1,Fr.m sG b2,Fr.m sG b3,Fr.m sG b4,Fr.m sG b5,Fr.m sG b6,Fr.m sG b7⟩)),ok.stn hl i⟩
   refine a0 _ rfl (M0 xe CE dxe _ _ rfl (E4.sub _ _ hxe4) TE.cl TE.n1 (fc _ _ _ _ _) rfl (a0 _ rfl ?_));have ht3:=ht2.mono e3.grow;have hkc:el.kind=.halt_\/el.kind=.mirror\/∃ g,el.kind=.surface g:=by
    cases el.kind with
    |halt_=>exact .inl rfl
    |mirror=>exact .inr (.inl rfl)
    |surface g=>exact .inr (.inr (l9 g rfl))
   obtain⟨mS,m0⟩:=ok.ix hl (i+1);have hix1:=Ma.dQ y line (i+1);rw[yb]at hix1;rcases hkc with hk|hk|⟨g,hk⟩
   ·-- a stop
    rw[hk]at hbs hms;have hb:Ma.back y (i+1)=Ma.back y i:=hbs;have hm:y.medium (i+1)=y.medium i:=hms;have hst:Ma.B1 y line i=⟨true,y.gap i/y.index line i,0,0,0,0,0,0⟩:=by unfold Ma.B1;rw[hie,hk]
    refine dR (λq=>absurd (by rw[hk]at q;exact q) FH) (λ_=>?_);refine a0 Fin ?_ fin;refine a0 _ rfl (M0 xe CE dxe _ _ rfl (E4.sub _ _ hxe4) TE.cl TE.n1 (fc _ _ _ _ _) rfl (a0 _ rfl (dR (λq=>absurd (by rw[hk]at q;exact q) Bb) (λ_=>?_))));refine O0 G3 (.ref pm) r8 z (M0 z z z z z (by rw[hb];rfl) E4 oL4 (l7.refl _) (by rw[hm];exact ht3) ?_ ?_)
    ·rw[hst];rw[decide_eq_true hk]at ox;exact ox
    ·rw[hst];exact⟨f3',hz _,hz _,hz _,hz _,hz _,hz _⟩
   ·-- a mirror
    rw[hk]at hbs hms;have hb:Ma.back y (i+1)=!Ma.back y i:=hbs;have hm:y.medium (i+1)=y.medium i:=hms;have hneg:y.index line (i+1)=-y.index line i:=by
     rw[hix1,hix,hb];show(if(!Ma.back y i)=true then -(Ma.triple y (y.medium (i+1))).getD line 1 else(Ma.triple y (y.medium (i+1))).getD line 1)=-(if Ma.back y i=true then -(Ma.triple y (y.medium i)).getD line 1 else(Ma.triple y (y.medium i)).getD line 1);rw[hm];cases Ma.back y i
     ·rw[if_pos (by rfl),if_neg (by decide)]
     ·rw[if_neg (by decide),if_pos rfl,Rat.neg_neg]
    have hcol:Ln.spreads y line (i+1)-Ln.spreads y line i=0:=by
     rw[Ma.M4 y line (i+1) (ok.gi hl (i+1)).2,Ma.M4 y line i (ok.gi hl i).2,hm];exact Rat.sub_self
    have hst:Ma.B1 y line i=⟨false,y.gap i/y.index line i,y.index line i*el.curve,y.index line (i+1)*el.curve,1/(y.index line (i+1)*y.index line (i+1))-1/(y.index line i*y.index line i),el.curve*(1/y.index line (i+1)-1/y.index line i),el.conic*(el.curve*(el.curve*el.curve))*(y.index line (i+1)-y.index line i),Ln.spreads y line (i+1)-Ln.spreads y line i⟩:=by unfold Ma.B1;rw[hie,hk]
    refine dR (λ_=>?_) (λq=>absurd (by rw[hk];rfl) q);refine a0 _ rfl (a0 _ rfl ?_);refine a0 _ rfl (a0 _ rfl (a0 _ rfl (a0 _ rfl (z8 G3 _ _ rfl E4.sub fn4 trivial (λv5 G5 H5 e5 f5=>?_)))));refine p9 G5 x dx (.ref xe) vn (p9 v5 _ _ _ _ (p9 _ _ _ _ el (I0 y.glasses (y.index line i) (y.index line (i+1)) ⟨rfl,e5.sub,ox.ext e5 (by simp),hE4.mono e5.grow,Fr.m e5.grow fn4,?_,nS,mS,n0,m0,λG6 H6 vb vh vq vd vc' e6 o6 b2 b3 b4 b5 b6=>?_⟩)))
    ·rw[hneg];exact f5
    have e46:j6 [x] G3 H4 G6 H6:=e5.up.trans e6;have E6:j6 [] G H G6 H6:=j6.drop hxH (E4.up.trans e46);refine a0 Fin ?_ fin;refine a0 _ rfl (M0 xe CE dxe _ _ rfl (E6.sub _ _ (e46.grow _ _ hxe4)) TE.cl TE.n1 (fc _ _ _ _ _) rfl (a0 _ rfl (dR (λq=>absurd (by rw[hk]at q;exact q) Bd) (λ_=>?_))));refine O0 G6 (.ref pm) r8 vb (M0 vh vq vd vc' z (by rw[hb];rfl) E6 (oL4.ext e46 (by simpa using nLx)) e46.grow (by rw[hm];exact ht3.mono e46.grow) ?_ ?_)
    ·rw[hst];rw[decide_eq_false (by rw[hk];intro q;cases q)]at o6;exact o6
    ·rw[hst];refine⟨Fr.m e46.grow f3',b2,b3,b4,b5,b6,?_⟩;show Fr K G6 z (Ln.spreads y line (i+1)-Ln.spreads y line i);rw[hcol];exact hz _
   ·-- a surface
    rw[hk]at hbs hms;have hb:Ma.back y (i+1)=Ma.back y i:=by rw[hbs,if_neg (by intro q;cases q)]
    have hm:y.medium (i+1)=g:=hms;rw[hk]at hgl;have hgl4:qM K G3 vl (Ma.triple y (y.medium (i+1))):=by rw[hm];exact hgl.1.mono e3.grow
    have g31:=ok.tri (ok.med (i+1));obtain⟨ga1,gb1,gc1,gd1⟩:=g31.get hl;have hst:Ma.B1 y line i=⟨false,y.gap i/y.index line i,y.index line i*el.curve,y.index line (i+1)*el.curve,1/(y.index line (i+1)*y.index line (i+1))-1/(y.index line i*y.index line i),el.curve*(1/y.index line (i+1)-1/y.index line i),el.conic*(el.curve*(el.curve*el.curve))*(y.index line (i+1)-y.index line i),Ln.spreads y line (i+1)-Ln.spreads y line i⟩:=by unfold Ma.B1;rw[hie,hk]
    refine dR (λq=>absurd (by rw[hk]at q;exact q) FG) (λ_=>?_);refine a0 Fin ?_ fin;refine a0 _ rfl (M0 xe CE dxe _ _ rfl (E4.sub _ _ hxe4) TE.cl TE.n1 (fc _ _ _ _ _) rfl (a0 _ rfl (dR (λ_=>?_) (λq=>absurd (by rw[hk];rfl) q))));refine a0 (λσ' H'=>∃ (G':Hp) (v5:V),σ'=[some (.ref xS),some (.int (line:Int)),some (.ref L),some (.ref pm),some (.bl (Ma.back y i)),some (.ref xe),some vn,some (.ref x),some v5]/\j6 [] G3 H4 G' H'/\Fr K G' v5 (y.index line (i+1))) ?_ ?_
    ·obtain⟨pg,xsg,ug,rfl,qg,ag,fg⟩:=fE hgl4 ga1;refine a0 _ rfl (a0 _ rfl (N9 (λhbb=>?_) (λhbb=>?_)))
     ·refine a0 _ rfl (l4 xe CE dxe _ _ rfl (E4.sub _ _ hxe4) TE.cl TE.n3 (fe _ _ _ _ _) (a0 _ rfl (j5 pg _ _ _ rfl rfl (E4.sub.seqT qg) ag (z8 G3 _ _ rfl E4.sub fg trivial (λv G5 H5 e5 f5=>(h9 G5 v rfl e5 ?_))))));rw[hix1,hb,if_pos hbb];exact f5
     ·refine a0 _ rfl (l4 xe CE dxe _ _ rfl (E4.sub _ _ hxe4) TE.cl TE.n3 (fe _ _ _ _ _) (a0 _ rfl (j5 pg _ _ _ rfl rfl (E4.sub.seqT qg) ag (h9 G3 ug rfl (j6.refl E4.sub) ?_))));rw[hix1,hb,if_neg (by rw[hbb];decide)];exact fg
    rintro σ' H5 ⟨G5,v5,rfl,e5,f5⟩;refine a0 _ rfl (a0 _ rfl (a0 _ rfl (a0 _ rfl (p9 G5 x dx (.ref xe) vn (p9 v5 _ _ _ _ (p9 _ _ _ _ el (I0 y.glasses (y.index line i) (y.index line (i+1)) ⟨rfl,e5.sub,ox.ext e5 (by simp),hE4.mono e5.grow,Fr.m e5.grow fn4,f5,nS,mS,n0,m0,λG6 H6 vb vh vq vd vc' e6 o6 b2 b3 b4 b5 b6=>?_⟩)))))));have e46:j6 [x] G3 H4 G6 H6:=e5.up.trans e6;refine a0 _ rfl (l4 xe CE dxe _ _ rfl (e6.sub _ _ (e46.grow _ _ hxe4)) TE.cl TE.n3 (fe _ _ _ _ _) (a0 _ rfl (l8 G6 _ _ line rfl e6.sub (hgl4.mono e46.grow) g31 hl (λv7 G7 H7 e7 f7=>?_))));refine a0 _ rfl (a0 _ rfl (l8 G7 _ _ line rfl e7.sub (ht3.mono (e46.grow.trans e7.grow)) g3 hl (λv8 G8 H8 e8 f8=>?_)));have s1:=ok.spr hl (i+1);have s0:=ok.spr hl i;rw[Ma.M4 y line (i+1) (ok.gi hl (i+1)).2]at s1;rw[Ma.M4 y line i (ok.gi hl i).2]at s0;refine l4 G8 _ _ _ _ rfl e8.sub (Fr.m e8.grow f7) f8 ⟨s1.mono (by decide),s0.mono (by decide)⟩ (λv9 G9 H9 e9 f9=>?_);have e69:j6 [] G6 H6 G9 H9:=(e7.trans e8).trans e9;have o9:=o6.ext e69 (by simp);refine a0 _ rfl (l8 x CT dx _ rfl o9.at_ T.cl T.n8 (by show 8<1000;decide) ?_);rw[pR];have e49:j6 [x] G3 H4 G9 H9:=e46.tr0 e69;have e410:j6 [x] G3 H4 G9 (i8 H9 x (.ins CT dx (R3 (.bl (decide (el.kind=.halt_))) vw vb vh vq vd vc' v9))):=e49.put (.inr (by simp)) o9.fr;have E10:=j6.drop hxH (E4.up.trans e410);refine a0 _ rfl (l4 xe CE dxe _ _ rfl (E10.sub _ _ (e410.grow _ _ hxe4)) TE.cl TE.n3 (fe _ _ _ _ _) ?_);refine O0 G9 vl (some v5) vb (M0 vh vq vd vc' v9 (by rw[hb];rfl) E10 (oL4.ext e410 (by simpa using nLx)) e410.grow (hgl4.mono e410.grow) ?_ ?_)
    ·rw[hst];refine⟨?_,o9.fr⟩;rw[c9,decide_eq_false (by rw[hk];intro q;cases q)]
    ·rw[hst];refine⟨Fr.m e410.grow f3',Fr.m e69.grow b2,Fr.m e69.grow b3,Fr.m e69.grow b4,Fr.m e69.grow b5,Fr.m e69.grow b6,?_⟩;show Fr K G9 v9 (Ln.spreads y line (i+1)-Ln.spreads y line i);rw[Ma.M4 y line (i+1) (ok.gi hl (i+1)).2,Ma.M4 y line i (ok.gi hl i).2];exact f9
  ·rintro σ H' ⟨G',vmed,vs,r5,r6,r7,r8,rfl,e1,oL1,ht1,hp1⟩;refine a0 _ rfl ?_;have hlen:ps.length=y.count:=Paired.length hpair;rw[hlen]at hp1;have E6:=e1.freeze oL1.at_ hL;have sG:l7 G' (i8 G' L (.lst vs)):=λc o hc=>by
    have:c≠L:=λz=>by rw[z,oL1.fr]at hc;cases hc
    rw[i0 this];exact hc
   exact k _ _ _ E6 (h9 L vs rfl c9 (Paired.map' (λ_ _ z=>z.mono sG) hp1))
open TL
open Ln.Num (tellable)
theorem lS:(2:Nat)^4096<=10^4300:=Nat.le_trans (Nat.pow_le_pow_left (by decide) 4096) (Nat.pow_le_pow_right (by decide) (by decide))
theorem Cc:(2:Nat)^4096<=10^4096:=Nat.pow_le_pow_left (by decide) 4096
theorem fw (i:Int):Builtin.Int.intBits i<=4096↔i.natAbs<2^4096:=by
 unfold Builtin.Int.intBits;by_cases h0:i=0
 ·subst h0;exact⟨λ_=>Nat.pow_pos (by decide),λ_=>Nat.zero_le _⟩
 ·rw[if_neg (by simpa using h0)];have hn:i.natAbs≠0:=by omega
  exact Nat.log2_lt hn
theorem jx {n:Nat}(h:n<2^4096):(Ma.gN n).length<=4096:=xo (by decide) (Nat.lt_of_lt_of_le h Cc)
theorem oU {i:Int}(h:i.natAbs<2^4096):(Ma.jP i).length<=4097:=by
 unfold Ma.jP;have:=jx h;rw[List.length_append];by_cases h:i<0
 ·rw[if_pos h];simp;omega
 ·rw[if_neg h];simp;omega
theorem ej (q:Rat):tellable q=true↔q.num.natAbs<2^4096/\q.den<2^4096:=by
 unfold tellable;rw[Bool.and_eq_true,decide_eq_true_eq,decide_eq_true_eq]
theorem kM {q:Rat}(h:tellable q=true):(Ma.N6 q).length<=8194:=by
 obtain⟨h1,h2⟩:=(ej q).mp h;have a:=oU h1;have b:=jx h2;unfold Ma.N6;split
 ·omega
 ·rw[List.length_append,List.length_cons];omega
theorem lx (i:Int):(Str.ofString (toString i)).length=(Ma.jP i).length:=by rw[qx,lr]
theorem oS (n:Nat):Ma.jP (n:Int)=Ma.gN n:=by
 unfold Ma.jP;rw[if_neg (by omega)];rfl
structure Tm (K:W.Frag)(mg:Str->Option Value)(CL:Addr):Prop where
 bits_:GI mg "MOST_BITS" 4096
 tl_:XC K mg "TooLarge" CL
 str_:mg "str"=none
 ord_:mg "ord"=none
 len_:mg "len"=none
def rp (CL:Addr):Sp:=λvs H Q E=>∃ q:Rat,vs=[.int q.num,.int (q.den:Int)]/\(tellable q=true->∀ x:Str,tl x=Ma.N6 q->Q (.str x) H)/\(tellable q=false->∀ H',E (.ref CL) none H')
theorem BS:i6 ["top","bottom"] ["top","bottom"] (d8 aU):=⟨rfl,rfl,rfl,by decide +kernel,rfl,by decide +kernel,by decide +kernel⟩
theorem DB {f:Addr}{fd:FuncData}(F:F1 K "exact_text" "exact_text" aU f fd)(T:Tm K mg CL):o8 prog w K mg base (A7 prog w) 1 f fd ["top","bottom"] (rp CL):=by
 refine F.okX BS (λvs H Q E h=>?_) (λcdv A outer s H vs Q E hr h=>?_)
 ·obtain⟨q,rfl,_⟩:=h;rfl
 ·obtain⟨q,rfl,k1,k2⟩:=h;refine a0 _ (c8 (y2 (ki (m9 gw (wU PySem.F.plainAttrs_int PySem.F.slot_int_bit_length PySem.F.type_int_bit_length kC (pv 0)) (fU T.bits_) (n9 _)) (iP (m9 gw (wU PySem.F.plainAttrs_int PySem.F.slot_int_bit_length PySem.F.type_int_bit_length kC (pv 1)) (fU T.bits_) (n9 _)))).pt (d7 (K8 N0 rfl (by rfl) T.tl_.m T.tl_.c)) l6)
   (c8 (y2 (m9 K2 (pv 1) g8 (n9 _)) (d7 (j1 (S3 (uN rfl) (by rfl) T.str_ boot_str (c7 (pv 0) d4)))) l6)
   (d7 (j1 (Fo rfl (pv 0) (pv 1)))))) ?_
  refine g9 _ rfl rfl (g9 _ rfl rfl (h9 _ _ rfl rfl (a0 _ rfl (B4 (λh1=>?_) (λh1=>?_)))))
  ·refine eV (k2 ?_ _);cases z:tellable q with
   |false=>rfl
   |true =>
    have:=(fw q.num).mpr ((ej q).mp z).1;omega
  refine g9 _ rfl rfl (g9 _ rfl rfl (h9 _ _ rfl rfl (a0 _ rfl (B4 (λh2=>?_) (λh2=>?_)))))
  ·refine k2 ?_ _;cases z:tellable q with
   |false=>rfl
   |true =>
    have:=(fw (q.den:Int)).mpr ((ej q).mp z).2;omega
  have t1:q.num.natAbs<2^4096:=(fw q.num).mp (by omega);have t2:q.den<2^4096:=(fw (q.den:Int)).mp (by omega);have ht:tellable q=true:=(ej q).mpr ⟨t1,t2⟩;have kk:=k1 ht;refine g9 _ rfl rfl (a0 _ rfl (N5 (λh3=>?_) (λh3=>?_)))
  ·refine a0 _ rfl (g9 _ rfl (Nat.lt_of_lt_of_le t1 lS) (kk _ ?_));unfold Ma.N6;rw[if_pos (by omega),lr]
  ·have l1:=oU t1;have l2:=jx t2;refine a0 _ rfl (M9 _ rfl (Nat.lt_of_lt_of_le t1 lS) ?_ (a0 _ rfl (M9 _ rfl (Nat.lt_of_lt_of_le t2 lS) ?_ (kk _ ?_))))
   ·rw[lx];show _+1<=_;exact Nat.le_trans (show _<=10000 by omega) (by decide)
   ·rw[lx,lx,oS];show _+1+_<=_;exact Nat.le_trans (show _<=10000 by omega) (by decide)
   ·unfold Ma.N6;rw[if_neg (by omega),Z0,Z0,lr,lr,oS,List.append_assoc];rfl
def qO (K:W.Frag)(G:Hp)(v:V)(prs:List (Int×Int)):Prop:=∃ L vs,v=.ref L/\C9 K G L vs/\Paired (λv (pr:Int×Int)=>∃ t,v=.ref t/\W2 K G t [.int pr.1,.int pr.2]) vs prs
theorem sr:∀ l:List (List Nat),kF [32] l=Ma.ah l
 |[]=>rfl
 |[_]=>rfl
 |x::y::r=>by
  show x++([32]++kF [32] (y::r))=x++32::Ma.ah (y::r);rw[sr (y::r)];rfl
theorem kG:∀ l:List (List Nat),(∀ x∈l,x.length<=8194)->(Ma.ah l).length<=8195*l.length
 |[],_=>Nat.zero_le _
 |[x],h=>by
  have:=h x (by simp);show x.length<=_;simp;omega
 |x::y::r,h=>by
  have h1:=h x (by simp);have h2:=kG (y::r) λz hz=>h z (List.mem_cons_of_mem _ hz);show(x++32::Ma.ah (y::r)).length<=_;rw[List.length_append,List.length_cons];simp only[List.length_cons]at h2⊢;omega
def wa (K:W.Frag)(CL:Addr):Sp:=λvs H Q E=>∃ (G:Hp) (a:V) (prs:List (Int×Int)),vs=[a]/\l7 G H/\qO K G a prs/\(∀ pr∈prs,pr.2≠0)/\prs.length<=100 /\
 ((Ma.w9 prs).all tellable=false->∀ H',E (.ref CL) none H')/\((Ma.w9 prs).all tellable=true->∀ v G' H',j6 [] G H G' H'->(∃ l,v=.ref l/\G' l=some (.lst ((Ma.M3 (Ma.w9 prs)).map V.int)))->Q v H')
theorem aF:i6 ["pairs","texts","top","bottom","least","signs","sign"] ["pairs"] (d8 lN):=⟨rfl,rfl,rfl,by decide +kernel,rfl,by decide +kernel,by decide +kernel⟩
theorem tX {prs:List (Int×Int)}{i:Nat}{pr:Int×Int}(h:prs[i]?=some pr):(Ma.w9 prs)[i]?=some ((pr.1:Rat)/(pr.2:Rat)):=by
 unfold Ma.w9;rw[List.getElem?_map,h];rfl
theorem mM {α:Type}{p:α->Bool}{l:List α}{i:Nat}{x:α}(h:l[i]?=some x)(hp:p x=false):l.all p=false:=by
 rw[List.all_eq_false];exact a0 x (List.mem_of_getElem? h) (by rw[hp];decide)
theorem zq {f:Addr}{fd:FuncData}(F:F1 K "told" "told" lN f fd)(T:Tm K mg CL)(Df:B8 prog w K mg base 2 "fraction" ["top","bottom"] (dD K))(De:B8 prog w K mg base 1 "exact_text" ["top","bottom"] (rp CL)):o8 prog w K mg base (A7 prog w) 3 f fd ["pairs"] (wa K CL):=by
 refine F.okX aF (λvs H Q E h=>?_) (λcdv A outer s H vs Q E hr h=>?_)
 ·obtain⟨G,a,prs,rfl,_⟩:=h;rfl
 ·obtain⟨G,_,prs,rfl,sm,⟨LP,ps,rfl,hLP,hpair⟩,hnz,hlen,k2,k1⟩:=h;have hr1:=hr.mono (show 1<=2 by decide);refine a0 _ (c8 (i7 (i:=1) aF.nd rfl (Or.inl rfl) (C5 d4))
   (c8 (Q8 J3 rfl (K9 (pv 0)) (lT rfl (P3 (y9 (i:=2) aF.nd rfl (Or.inl rfl)) (P3 (y9 (i:=3) aF.nd rfl (Or.inl rfl)) ic)))
    (c8 (i7 (i:=4) aF.nd rfl (Or.inl rfl) (d9 Df hr d6 (c7 (pv 2) (c7 (pv 3) d4))))
    (d7 (j8 (kl PySem.F.plainAttrs_list PySem.F.slot_list_append PySem.F.type_list_append Z8 (pv 1) (c7 (d9 De hr1 d6 (c7 (px 4 (pv 4)) (c7 (px 4 (pv 4)) d4))) d4))))))
   (c8 (iU (i:=5) (own:=[("sign",6)]) rfl aF.nd rfl rfl (aC rfl rfl rfl rfl) (qk (zk j9 (pv 1))) (N7 (show jG ["pairs","texts","top","bottom","least","signs","sign"] (d8 lN) _ _=true by decide +kernel)) (λ_ _ _ _ _=>y9 (i:=6) aF.nd rfl (Or.inl rfl)) (λ_ _ _ _ _=>R4) (λ_ _ _ _ _=>A6 jE (by rfl) T.ord_ boot_ord (c7 (pv 6) d4)))
   (d7 (j1 (i5 lV (C5 (c7 (A6 B0 (by rfl) T.len_ boot_len (c7 (pv 5) d4)) d4)) (pv 5))))))) ?_
  refine⟨(by show 0<=sizeLine;decide),λL hL=>?_⟩;have e0:j6 [] G H G (i8 H L (.lst [])):=(j6.refl sm).lend hL;have oL0:M7 G (i8 H L (.lst [])) L (.lst []):=⟨c9,sm.free hL⟩;have hpl:ps.length=prs.length:=Paired.length hpair;refine a0 _ rfl (g9 LP rfl (l9 _ (e0.sub.seq hLP)) (P7 (K:=K) (a:=LP) (xs:=ps) (λi σ H'=>∃ (G':Hp) (xs:List Str) (r2 r3 r4 r5 r6:Option V),σ=[some (.ref LP),some (.ref L),r2,r3,r4,r5,r6]/\j6 [] G H G' H'/\M7 G' H' L (.lst (xs.map V.str))/\xs.map tl=((Ma.w9 prs).take i).map Ma.N6/\((Ma.w9 prs).take i).all tellable=true)
   (p9 G ([]) none none none (J5 none none rfl e0 oL0 rfl rfl)) (λi σ H' _ h0=>by obtain⟨G',_,_,_,_,_,_,_,e,_⟩:=h0;exact e.sub.seq (e.grow.seq hLP)) ?_ ?_))
  ·rintro i u σ H1 hu ⟨G1,xs,r2,r3,r4,r5,r6,rfl,e1,oL1,hx1,ha1⟩;obtain⟨pr,hpr,t,rfl,ht⟩:=D0 hpair hu;have hq:=tX hpr;refine i3 t _ rfl (e1.sub.seqT (e1.grow.seqT ht)) rfl (J0 _ _ rfl (h9 _ _ rfl rfl ?_));refine a0 _ rfl (a0 _ rfl (m8 G1 _ _ rfl (hnz pr (List.mem_of_getElem? hpr)) e1.sub (λv G2 H2 e2 hv=>?_)));obtain⟨p,rfl,hp⟩:=hv;have oL2:=oL1.ext e2 (by simp);refine g9 _ rfl (.inl ⟨rfl,l9 _ (C9.of oL2.at_)⟩) (m8 p _ _ rfl (e2.sub.seqT hp) rfl (m8 p _ _ rfl (e2.sub.seqT hp) rfl (g9 _ rfl (λht2 x hx=>?_) (λht2=>k2 (mM hq ht2)))));have hxl:xs.length=((Ma.w9 prs).take i).length:=by have:=congrArg List.length hx1;simpa using this
   have hxl2:xs.length<=100:=by rw[hxl,List.length_take];unfold Ma.w9;rw[List.length_map];omega
   refine z8 L _ _ rfl rfl oL2.at_ ?_ ?_
   ·rw[List.length_map];exact Nat.lt_of_le_of_lt hxl2 (by decide)
   have e3:=(e1.trans e2).put (.inl hL) oL2.fr (o:=.lst (xs.map V.str++[.str x]));have htk:(Ma.w9 prs).take (i+1)=(Ma.w9 prs).take i++[(pr.1:Rat)/(pr.2:Rat)]:=by rw[List.take_add_one,hq];rfl
   refine p9 G2 (xs++[x]) _ _ _ (J5 _ _ rfl e3 ?_ ?_ ?_)
   ·rw[List.map_append];exact⟨c9,oL2.fr⟩
   ·rw[htk,List.map_append,List.map_append,hx1];show _++[tl x]=_;rw[hx];rfl
   ·rw[htk,List.all_append,ha1];show(true&&(tellable _&&true))=true;rw[ht2];rfl
  ·rintro σ H1 ⟨G1,xs,r2,r3,r4,r5,r6,rfl,e1,oL1,hx1,ha1⟩;have htl:(Ma.w9 prs).take ps.length=Ma.w9 prs:=by rw[hpl];exact List.take_of_length_le (by unfold Ma.w9;rw[List.length_map];exact Nat.le_refl _)
   rw[htl]at hx1 ha1;have kk:=k1 ha1;have hxl:xs.length=prs.length:=by
    have:=congrArg List.length hx1;simp only[List.length_map]at this;rw[this];unfold Ma.w9;rw[List.length_map]
   have hsmall:∀ y∈xs,y.length<=8194:=λy hy=>by
    rw[qx];have:tl y∈(Ma.w9 prs).map Ma.N6:=by rw[<-hx1];exact List.mem_map.mpr (a0 y hy rfl)
    obtain⟨q,hq,e⟩:=List.mem_map.mp this;rw[<-e];exact kM (List.all_eq_true.mp ha1 q hq)
   have hsum:∀ l:List Str,(∀ y∈l,y.length<=8194)->(l.map (·.length)).sum<=8194*l.length:=by
    intro l
    induction l with
    |nil=>intro _;exact Nat.le_refl _
    |cons a l ih =>
     intro h;have h1:=h a (List.mem_cons_self ..);have h2:=ih λy hy=>h y (List.mem_cons_of_mem _ hy);simp only[List.map_cons,List.sum_cons,List.length_cons];omega
   have hsb:=hsum xs hsmall;have hcod:tl (Txt.join " " xs)=Ma.ah ((Ma.w9 prs).map Ma.N6):=by
    rw[Aa,ra,hx1];show kF [32] _=_;exact sr _
   have hjl:(Ma.ah ((Ma.w9 prs).map Ma.N6)).length<=819500:=by
    have:=kG ((Ma.w9 prs).map Ma.N6) λx hx=>by
     obtain⟨q,hq,rfl⟩:=List.mem_map.mp hx;exact kM (List.all_eq_true.mp ha1 q hq)
    rw[List.length_map]at this;have h3:(Ma.w9 prs).length=prs.length:=by unfold Ma.w9;rw[List.length_map]
    omega
   refine⟨(l9 _ rfl),a0 _ rfl (z8 _ L xs rfl rfl (.inl (C9.of oL1.at_)) ?_ (a0 _ rfl (λD hD=>?_)))⟩
   ·show _+_*1<=_;omega
   generalize Txt.join (Str.ofString " ") xs=X at hcod;have hsg:fN X=(Ma.ah ((Ma.w9 prs).map Ma.N6)).map λc=>V.str ⟨#[c]⟩:=by
    unfold fN;rw[show X.cps.toList=tl X from rfl,hcod]
   generalize hJ:Ma.ah ((Ma.w9 prs).map Ma.N6)=J at hcod hjl hsg;refine xD (x:=X) (λi Hc=>Hc=i8 H1 D (.lst ((J.take i).map λ(c:Nat)=>V.int (c:Int)))) rfl ?_ ?_
   ·rintro j v Hc hv rfl;rw[hsg,List.getElem?_map]at hv;obtain⟨c,hcc,rfl⟩:∃ c,J[j]?=some c/\v=V.str ⟨#[c]⟩:=by
     cases q:J[j]? with
     |none=>rw[q]at hv;cases hv
     |some x=>rw[q]at hv;exact a0 x rfl ((Option.some.inj hv).symm)
    refine⟨rfl,a0 _ rfl (g9 _ rfl rfl (g9 _ c9 ?_ ?_))⟩
    ·rw[List.length_map,List.length_take];exact Nat.lt_of_le_of_lt (Nat.le_trans (Nat.min_le_right _ _) hjl) (by decide)
    ·rw[A8,List.take_add_one,hcc,List.map_append];rfl
   ·rintro Hc rfl;have hlX:(fN X).length=J.length:=by rw[hsg,List.length_map]
    rw[hlX,List.take_length];have e2:=e1.lay hD (o:=.lst (J.map λ(c:Nat)=>V.int (c:Int)));refine a0 _ rfl (i3 D _ rfl (.inl (.of c9)) (by show 1<=sizeLine;decide) (λl1 hl1=>?_));have ne1:D≠l1:=j3 (c9 (H:=H1) (a:=D)) hl1;refine a0 _ rfl (l8 l1 D _ _ rfl rfl c9 (by rw[i0 ne1,c9]) ?_ (λl2 hl2=>?_))
    ·rw[List.length_map];show 1+J.length<=sizeLine;exact Nat.le_trans (show _<=1000000 by omega) (by decide)
    have e3:=e2.lay hl1 (o:=.lst [.int ((J.map λ(c:Nat)=>V.int (c:Int)).length:Nat)]);have e4:=e3.lay hl2 (o:=.lst ([.int ((J.map λ(c:Nat)=>V.int (c:Int)).length:Nat)]++J.map λ(c:Nat)=>V.int (c:Int)));refine kk _ _ _ e4 (a0 l2 rfl ?_);rw[c9];unfold Ma.M3;rw[ha1,if_neg (by decide),hJ,List.map_cons,List.map_map,List.length_map];rfl
open Ma (B)
def mQ (K:W.Frag)(CT:Addr)(G:Hp)(v:V)(ts:List C0):Prop:=∃ L vs,v=.ref L/\C9 K G L vs/\Paired (dY K CT G) vs ts
theorem mQ.mono {K:W.Frag}{CT:Addr}{G G':Hp}{v:V}{ts:List C0}(s:l7 G G')(h:mQ K CT G v ts):mQ K CT G' v ts:=by
 obtain⟨L,vs,e,h1,h2⟩:=h;exact h9 L vs e (s.seq h1) (Paired.map' (λ_ _ z=>z.mono s) h2)
theorem jH.l {K:W.Frag}{CT:Addr}{G:Hp}{v:V}{ts:List C0}(h:jH K CT G v ts):mQ K CT G v ts:=by
 obtain⟨L,vs,e,h1,h2⟩:=h;exact h9 L vs e (.of h1) h2
theorem pf (a b:Nat):Int.fdiv (a:Int) (b:Int)=((a/b:Nat):Int):=by
 rw[Int.fdiv_eq_ediv_of_nonneg _ (Int.natCast_nonneg b)];rfl
theorem ao {a b:Int}(h:0<b):Int.fdiv a b=a/b:=Int.fdiv_eq_ediv_of_nonneg _ (Int.le_of_lt h)
theorem den_pos (q:Rat):(0:Int)<(q.den:Int):=by have:=q.den_pos;omega
def rm (K:W.Frag):Sp:=λvs H Q _=>∃ (G:Hp) (L:Addr) (ns:List Nat) (k:Nat),vs=[.ref L]/\l7 G H/\C9 K G L (ns.map λ(n:Nat)=>V.int (n:Int))/\(∀ n∈ns,0<n/\n<2^k)/\k*(ns.length+1)+2<=60000000/\Q (.int ((Ma.U7 ns:Nat):Int)) H
theorem fP:i6 ["scales","multiple","scale"] ["scales"] (d8 O5):=⟨rfl,rfl,rfl,by decide +kernel,rfl,by decide +kernel,by decide +kernel⟩
theorem kD (l:List Nat)(n:Nat):Ma.U7 (l++[n])=Ma.U7 l*(n/Nat.gcd (Ma.U7 l) n):=by
 unfold Ma.U7;rw[List.foldl_append];rfl
theorem CY {f:Addr}{fd:FuncData}(F:F1 K "least_multiple" "least_multiple" O5 f fd)(Dg:B8 prog w K mg base 1 "common_divisor" ["a","b"] wo):o8 prog w K mg base (A7 prog w) 2 f fd ["scales"] (rm K):=by
 refine F.okX fP (λvs H Q E h=>?_) (λcdv A outer s H vs Q E hr h=>?_)
 ·obtain⟨G,L,ns,k,rfl,_⟩:=h;rfl
 ·obtain⟨G,L,ns,kb,rfl,sm,hL,hp,hk,kk⟩:=h;have dp:=fj (w:=w) (K:=K) (mg:=mg) (base:=base) (N:=["scales","multiple","scale"]) (outer:=outer) (H0:=H) (E:=E) Y9 fP.gen fP.co hr;refine a0 _ (c8 (i7 (i:=1) fP.nd rfl (Or.inl rfl) g8) (c8 (Q8 J3 rfl (K9 (pv 0)) (y9 (i:=2) fP.nd rfl (Or.inl rfl)) (d7 (ck (i:=1) fP.nd rfl (Or.inl rfl) (i5 (P5 dp) (pv 2) (d9 Dg hr d6 (c7 (pv 1) (c7 (pv 2) d4)))) js))) (d7 (j1 (pv 1))))) ?_;refine a0 _ rfl (g9 L rfl (l9 _ (sm.seq hL)) (P7 (K:=K) (a:=L) (xs:=ns.map λ(n:Nat)=>V.int (n:Int)) (λi σ H'=>H'=H/\∃ r,σ=[some (.ref L),some (.int ((Ma.U7 (ns.take i):Nat):Int)),r]) ⟨rfl,l9 none rfl⟩ (λi σ H' _ ⟨e,_⟩=>by rw[e];exact sm.seq hL) ?_ ?_))
  ·rintro i x σ H' hx ⟨rfl,r,rfl⟩;rw[List.getElem?_map]at hx;obtain⟨n,hn,rfl⟩:∃ n,ns[i]?=some n/\x=V.int (n:Int):=by
    cases q:ns[i]? with
    |none=>rw[q]at hx;cases hx
    |some y=>rw[q]at hx;exact a0 y rfl ((Option.some.inj hx).symm)
   obtain⟨hi,hin⟩:=List.getElem?_eq_some_iff.mp hn;have hm:=hp n (List.mem_of_getElem? hn);have hpos:0<Ma.U7 (ns.take i):=Ma.eR λy hy=>(hp y (List.mem_of_mem_take hy)).1;have hg:0<Nat.gcd (Ma.U7 (ns.take i)) n:=Nat.gcd_pos_of_pos_right _ hm.1;have hbd:Ma.U7 (ns.take i)<2^(1+(ns.take i).length*kb):=Ma.ie (ns.take i) 1 1 kb (by decide) λy hy=>(hp y (List.mem_of_mem_take hy)).2;have hb1:1+(ns.take i).length*kb<=67108864:=by
    have:(ns.take i).length<=ns.length:=by rw[List.length_take];omega
    have h2:(ns.take i).length*kb<=kb*(ns.length+1):=by rw[Nat.mul_comm];exact Nat.mul_le_mul_left _ (by omega)
    omega
   have hb2:kb<=67108864:=by
    have:kb*1<=kb*(ns.length+1):=Nat.mul_le_mul_left _ (by omega);omega
   refine a0 _ rfl (a0 _ rfl (a0 _ rfl (a0 _ rfl (J0 _ _ rfl (i3 _ _ rfl rfl (by omega) (J5 _ _ rfl rfl ?_ rfl (l9 (some (.int (n:Int))) ?_)))))))
   ·rw[pf];exact⟨B.mono (show B _ ((Ma.U7 (ns.take i):Nat):Int) from hbd) hb1,B.mono (show B kb (((n/Nat.gcd (Ma.U7 (ns.take i)) n):Nat):Int) from Nat.lt_of_le_of_lt (Nat.div_le_self _ _) hm.2) hb2⟩
   ·have ht:ns.take (i+1)=ns.take i++[n]:=by rw[List.take_add_one,hn];rfl
    rw[ht,kD,pf];rfl
  ·rintro σ H' ⟨rfl,r,rfl⟩;refine a0 _ rfl ?_;rw[List.length_map,List.take_length];exact kk
def wc (K:W.Frag)(CT:Addr):Sp:=λvs H Q _=>∃ (G:Hp) (v:V) (t:C0),vs=[v]/\l7 G H/\dY K CT G v t/\∀ G' H',j6 [] G H G' H'->Q (.int ((Ma.y8 t:Nat):Int)) H'
theorem BM:i6 ["station"] ["station"] (d8 Q2):=⟨rfl,rfl,rfl,by decide +kernel,rfl,by decide +kernel,by decide +kernel⟩
theorem Cz {f:Addr}{fd:FuncData}(F:F1 K "station_scale" "station_scale" Q2 f fd)(T:Tt K CT)(Dl:B8 prog w K mg base 2 "least_multiple" ["scales"] (rm K)):o8 prog w K mg base (A7 prog w) 3 f fd ["station"] (wc K CT):=by
 refine F.okX BM (λvs H Q E h=>?_) (λcdv A outer s H vs Q E hr h=>?_)
 ·obtain⟨G,v,t,rfl,_⟩:=h;rfl
 ·obtain⟨G,_,t,rfl,sm,⟨⟨x,dx,vw,vb,vh,vs,vd,vc,vl,rfl,hx,_,_,_,⟨p1,rfl,f1⟩,⟨p2,rfl,f2⟩,⟨p3,rfl,f3⟩,⟨p4,rfl,f4⟩⟩,ok⟩,kk⟩:=h;refine a0 _ (d7 (j1 (d9 Dl hr d6 (c7 (C5 (c7 (m7 r9 (t9 (pv 0) rfl) g8 (λ_ _=>rfl)) (c7 (m7 r9 (t9 (pv 0) rfl) g8 (λ_ _=>rfl)) (c7 (m7 r9 (t9 (pv 0) rfl) g8 (λ_ _=>rfl)) (c7 (m7 r9 (t9 (pv 0) rfl) g8 (λ_ _=>rfl)) d4))))) d4)))) ?_;have hx':=sm _ _ hx;refine a0 _ rfl (l4 x CT dx _ _ rfl hx' T.cl T.n5 rfl (j5 p1 _ _ _ rfl rfl (sm.seqT f1) rfl (a0 _ rfl (l4 x CT dx _ _ rfl hx' T.cl T.n6 rfl (j5 p2 _ _ _ rfl rfl (sm.seqT f2) rfl (a0 _ rfl (l4 x CT dx _ _ rfl hx' T.cl T.n7 rfl (j5 p3 _ _ _ rfl rfl (sm.seqT f3) rfl (a0 _ rfl (l4 x CT dx _ _ rfl hx' T.cl T.n8 rfl (l8 p4 _ _ _ rfl rfl (sm.seqT f4) rfl (by show 4<=sizeLine;decide) (λl hl=>?_))))))))))));have e1:j6 [] G H _ _:=(j6.refl sm).lay hl (o:=.lst [.int t.square.den,.int t.bend.den,.int t.conic.den,.int t.colour.den]);refine l8 _ l ([t.square.den,t.bend.den,t.conic.den,t.colour.den]) 400 rfl e1.sub (.of c9) ?_ (by show 400*(4+1)+2<=60000000;decide) (kk _ _ e1);intro n hn;simp only[List.mem_cons,List.not_mem_nil,or_false]at hn;rcases hn with rfl|rfl|rfl|rfl
  ·exact⟨Rat.den_pos _,ok.square.2⟩
  ·exact⟨Rat.den_pos _,ok.bend.2⟩
  ·exact⟨Rat.den_pos _,ok.conic.2⟩
  ·exact⟨Rat.den_pos _,ok.colour.2⟩
def we (K:W.Frag):Sp:=λvs H Q _=>∃ (G:Hp) (v:V) (q:Rat) (s:Int),vs=[v,.int s]/\l7 G H/\Fr K G v q/\Sz 60000000 q/\B 60000000 s/\Q (.int (Ma.F0 q s)) H
theorem wC:i6 ["number","scale"] ["number","scale"] (d8 dE):=⟨rfl,rfl,rfl,by decide +kernel,rfl,by decide +kernel,by decide +kernel⟩
theorem Fv {f:Addr}{fd:FuncData}(F:F1 K "on_scale" "on_scale" dE f fd):o8 prog w K mg base (A7 prog w) 1 f fd ["number","scale"] (we K):=by
 refine F.okX wC (λvs H Q E h=>?_) (λcdv A outer s H vs Q E hr h=>?_)
 ·obtain⟨G,v,q,s,rfl,_⟩:=h;rfl
 ·obtain⟨G,_,q,sc,rfl,sm,⟨p,rfl,hp⟩,hq,hs,kk⟩:=h;have dp:=fj (w:=w) (K:=K) (mg:=mg) (base:=base) (N:=["number","scale"]) (outer:=outer) (H0:=H) (E:=E) Y9 wC.gen wC.co hr;refine a0 _ (d7 (j1 (i5 i4 (px 0 (pv 0)) (i5 (P5 dp) (pv 1) (px 0 (pv 0)))))) ?_;refine m8 p _ _ rfl (sm.seqT hp) rfl (a0 _ rfl (m8 p _ _ rfl (sm.seqT hp) rfl (i3 _ _ rfl rfl (Ma.D4 q) (i3 _ _ rfl rfl ?_ ?_))))
  ·rw[ao (den_pos q)];exact⟨hq.num.mono (by decide),(B.div hs).mono (by decide)⟩
  ·rw[ao (den_pos q)];exact kk
def wk (K:W.Frag)(CT:Addr):Sp:=λvs H Q _=>∃ (G:Hp) (a r:V) (ts:List C0) (qs:List Rat) (n:Nat),vs=[a,r]/\l7 G H/\mQ K CT G a ts/\Ls K (Fr K) G r qs/\(∀ q∈qs,Sz n q)/\n*qs.length+390*(ts.length+1)+10<=60000000/\Q (.int (Ma.B6 ts qs)) H
theorem fO:i6 ["stations","rays","scale","number","station"] ["stations","rays"] (d8 T6):=⟨rfl,rfl,rfl,by decide +kernel,rfl,by decide +kernel,by decide +kernel⟩
theorem ux (l:List Rat)(q:Rat):Ma.Y5 (l++[q])=Ma.Y5 l*(q.den:Int):=by
 unfold Ma.Y5;rw[List.foldl_append];rfl
theorem uw (l:List C0)(t:C0)(n:Int):Ma.oA (l++[t]) n=Ma.oA l n*(t.walk.den*t.before.den*t.behind.den):=by
 unfold Ma.oA;rw[List.foldl_append];rfl
theorem CW {f:Addr}{fd:FuncData}(F:F1 K "length_scale" "length_scale" T6 f fd)(T:Tt K CT):o8 prog w K mg base (A7 prog w) 1 f fd ["stations","rays"] (wk K CT):=by
 refine F.okX fO (λvs H Q E h=>?_) (λcdv A outer s H vs Q E hr h=>?_)
 ·obtain⟨G,a,r,ts,qs,n,rfl,_⟩:=h;rfl
 ·obtain⟨G,_,_,ts,qs,n,rfl,sm,⟨LS,ss,rfl,hLS,hpS⟩,⟨LR,rs,rfl,hLR,hpR⟩,hsz,hbd,kk⟩:=h;refine a0 _ (c8 (i7 (i:=2) fO.nd rfl (Or.inl rfl) g8)
   (c8 (Q8 J3 rfl (K9 (pv 1)) (y9 (i:=3) fO.nd rfl (Or.inl rfl)) (d7 (ck (i:=2) fO.nd rfl (Or.inl rfl) (px 3 (pv 3)) js)))
   (c8 (Q8 J3 rfl (K9 (pv 0)) (y9 (i:=4) fO.nd rfl (Or.inl rfl)) (d7 (ck (i:=2) fO.nd rfl (Or.inl rfl) (i5 i4 (i5 i4 (m7 r9 (t9 (pv 4) rfl) g8 (λ_ _=>rfl)) (m7 r9 (t9 (pv 4) rfl) g8 (λ_ _=>rfl))) (m7 r9 (t9 (pv 4) rfl) g8 (λ_ _=>rfl))) js)))
   (d7 (j1 (pv 2)))))) ?_
  have hlR:rs.length=qs.length:=Paired.length hpR;have hlS:ss.length=ts.length:=Paired.length hpS;refine a0 _ rfl (g9 LR rfl (l9 _ (sm.seq hLR)) (P7 (K:=K) (a:=LR) (xs:=rs) (λi σ H'=>H'=H/\∃ r3 r4,σ=[some (.ref LS),some (.ref LR),some (.int (Ma.Y5 (qs.take i))),r3,r4]) ⟨rfl,P9 none none rfl⟩ (λi σ H' _ ⟨e,_⟩=>by rw[e];exact sm.seq hLR) ?_ ?_))
  ·rintro i x σ H' hx ⟨rfl,r3,r4,rfl⟩;obtain⟨q,hq,p,rfl,hp⟩:=D0 hpR hx;have ht:qs.take (i+1)=qs.take i++[q]:=by rw[List.take_add_one,hq];rfl
   have hqs:=hsz q (List.mem_of_getElem? hq);have b1:=Ma.me (qs.take i) n λz hz=>hsz z (List.mem_of_mem_take hz);have hle:(qs.take i).length<=qs.length:=by rw[List.length_take];omega
   have h2:n*(qs.take i).length<=n*qs.length:=Nat.mul_le_mul_left _ hle;have h3:1<=qs.length:=Nat.lt_of_le_of_lt (Nat.zero_le i) (List.getElem?_eq_some_iff.mp hq).1;have h4:n*1<=n*qs.length:=Nat.mul_le_mul_left _ h3;refine a0 _ rfl (m8 p _ _ rfl (sm.seqT hp) rfl (J5 _ _ rfl rfl ⟨b1.mono (by omega),hqs.den.mono (by omega)⟩ rfl (P9 (some (.ref p)) r4 ?_)));rw[ht,ux];rfl
  ·rintro σ H' ⟨rfl,r3,r4,rfl⟩;rw[hlR,List.take_length];have bR:=Ma.me qs n hsz;refine a0 _ rfl (g9 LS rfl (l9 _ (sm.seq hLS)) (P7 (K:=K) (a:=LS) (xs:=ss) (λi σ H''=>H''=H'/\∃ r3 r4,σ=[some (.ref LS),some (.ref LR),some (.int (Ma.oA (ts.take i) (Ma.Y5 qs))),r3,r4]) ⟨rfl,P9 r3 r4 rfl⟩ (λi σ H' _ ⟨e,_⟩=>by rw[e];exact sm.seq hLS) ?_ ?_))
   ·rintro i x σ H'' hx ⟨rfl,r3,r4,rfl⟩;obtain⟨t,ht,hst⟩:=D0 hpS hx;obtain⟨⟨y,dy,vw,vb,vh,vs,vd,vc,vl,rfl,hy,⟨p1,rfl,f1⟩,⟨p2,rfl,f2⟩,⟨p3,rfl,f3⟩,_⟩,ok⟩:=hst;have hy':=sm _ _ hy;have hallok:∀ z∈ts,K5 z:=by
     intro z hz;obtain⟨j,hj,hjz⟩:=List.getElem_of_mem hz;have key:∀ {xs:List V}{ys:List C0},Paired (dY K CT G) xs ys->∀ y∈ys,K5 y:=by
      intro xs ys hp
      induction hp with
      |nil=>intro y hy;cases hy
      |@cons a b l m h t ih =>
       intro y hy;rcases List.mem_cons.mp hy with e|e
       ·rw[e];exact h.ok
       ·exact ih y e
     exact key hpS z hz
    have bT:B (1+n*qs.length+(1+390*ts.length)) (Ma.oA (ts.take i) (Ma.Y5 qs)):=by
     rw[Ma.eQ];refine(bR.mul (Ma.wH (ts.take i) λz hz=>hallok z (List.mem_of_mem_take hz))).mono ?_;have:(ts.take i).length<=ts.length:=by rw[List.length_take];omega
     omega
    have htk:ts.take (i+1)=ts.take i++[t]:=by rw[List.take_add_one,ht];rfl
    refine a0 _ rfl (a0 _ rfl (l4 y CT dy _ _ rfl hy' T.cl T.n2 rfl (j5 p1 _ _ _ rfl rfl (sm.seqT f1) rfl (a0 _ rfl (l4 y CT dy _ _ rfl hy' T.cl T.n3 rfl (j5 p2 _ _ _ rfl rfl (sm.seqT f2) rfl (i3 _ _ rfl rfl ⟨ok.walk.den.mono (by decide),ok.before.den.mono (by decide)⟩ (a0 _ rfl (l4 y CT dy _ _ rfl hy' T.cl T.n4 rfl (j5 p3 _ _ _ rfl rfl (sm.seqT f3) rfl (i3 _ _ rfl rfl ⟨(ok.walk.den.mul ok.before.den).mono (by decide),ok.behind.den.mono (by decide)⟩ (J5 _ _ rfl rfl ⟨bT.mono (by omega),((ok.walk.den.mul ok.before.den).mul ok.behind.den).mono (by decide)⟩ rfl (P9 r3 (some (.ref y)) ?_)))))))))))));rw[htk,uw];rfl
   ·rintro σ H'' ⟨rfl,r3,r4,rfl⟩;refine a0 _ rfl ?_;rw[hlS,List.take_length];exact kk
theorem mL {K:W.Frag}{CT:Addr}{G:Hp}{xs:List V}{ys:List C0}(hp:Paired (dY K CT G) xs ys):∀ y∈ys,K5 y:=by
 induction hp with
 |nil=>intro y hy;cases hy
 |@cons a b l m h t ih =>
  intro y hy;rcases List.mem_cons.mp hy with e|e
  ·rw[e];exact h.ok
  ·exact ih y e
theorem jo:∀ (l:List C0) (t:C0) (h a:Int),Ma.bF (l++[t]) h a=Ma.bF [t] (Ma.bF l h a).1 (Ma.bF l h a).2
 |[],t,h,a=>rfl
 |s::l,t,h,a=>jo l t _ _
theorem eZ:∀ (l:List C0) (t:C0) (h a:Int),Ma.A9 (l++[t]) h a=Ma.A9 l h a++Ma.A9 [t] (Ma.bF l h a).1 (Ma.bF l h a).2
 |[],t,h,a=>rfl
 |s::l,t,h,a=>congrArg (_::·) (eZ l t _ _)
theorem si:∀ (l:List C0) (n:Nat) (h a:Int),(∀ t∈l,K5 t)->B n h->B n a->B (n+263*l.length) (Ma.bF l h a).1/\B (n+263*l.length) (Ma.bF l h a).2
 |[],n,h,a,_,hh,ha=>⟨hh,ha⟩
 |t::l,n,h,a,ok,hh,ha=>by
  obtain⟨b1,b2,b3⟩:=Ma.xx (ok t List.mem_cons_self) hh ha;have:=si l (n+263) _ _ (λz hz=>ok z (List.mem_cons_of_mem _ hz)) (b1.mono (by omega)) b3;refine⟨this.1.mono ?_,this.2.mono ?_⟩<;>(rw[List.length_cons];omega)
theorem V9:∀ (l:List C0) (h a:Int),(Ma.A9 l h a).length=l.length
 |[],_,_=>rfl
 |t::l,h,a=>congrArg (·+1) (V9 l _ _)
theorem Z2 {G:Hp}{p:Addr}{o:HO}(h:G p=none):l7 G (i8 G p o):=λb u e=>by
 have ne:b≠p:=λz=>by rw[z,h]at e;cases e
 rw[i0 ne];exact e
def pI (K:W.Frag)(G:Hp)(v:V)(pr:Int×Int):Prop:=∃ t,v=.ref t/\W2 K G t [.int pr.1,.int pr.2]
theorem pI.mono {K:W.Frag}{G G':Hp}(s:l7 G G')(v:V)(pr:Int×Int)(h:pI K G v pr):pI K G' v pr:=by
 obtain⟨t,e,h⟩:=h;exact a0 t e (s.seqT h)
def iD (K:W.Frag)(CT:Addr):Sp:=λvs H Q _=>∃ (G:Hp) (a:V) (ts:List C0) (h c:Int) (n:Nat),vs=[a,.int h,.int c]/\l7 G H/\mQ K CT G a ts/\B n h/\B n c/\n+263*(ts.length+1)+200<=60000000/\ts.length<=1000/\∀ v G' H',j6 [] G H G' H'->qO K G' v (Ma.A9 ts h c)->Q v H'
theorem bZ:i6 ["stations","height","angle","meetings","station","incidence"] ["stations","height","angle"] (d8 iM):=⟨rfl,rfl,rfl,by decide +kernel,rfl,by decide +kernel,by decide +kernel⟩
theorem DA {f:Addr}{fd:FuncData}(F:F1 K "follow" "follow" iM f fd)(T:Tt K CT):o8 prog w K mg base (A7 prog w) 1 f fd ["stations","height","angle"] (iD K CT):=by
 refine F.okX bZ (λvs H Q E h=>?_) (λcdv A outer s H vs Q E hr h=>?_)
 ·obtain⟨G,a,ts,h,c,n,rfl,_⟩:=h;rfl
 ·obtain⟨G,_,ts,h0,c0,n,rfl,sm,⟨LS,ss,rfl,hLS,hpS⟩,bh,bc,hbd,hlen,kk⟩:=h;have dp:=fj (w:=w) (K:=K) (mg:=mg) (base:=base) (N:=["stations","height","angle","meetings","station","incidence"]) (outer:=outer) (H0:=H) (E:=E) Y9 bZ.gen bZ.co hr;refine a0 _ (c8 (i7 (i:=3) bZ.nd rfl (Or.inl rfl) (C5 d4))
   (c8 (Q8 J3 rfl (K9 (pv 0)) (y9 (i:=4) bZ.nd rfl (Or.inl rfl))
    (c8 (ck (i:=1) bZ.nd rfl (Or.inl rfl) (i5 (P5 dp) (i5 i4 (m7 r9 (t9 (pv 4) rfl) g8 (λ_ _=>rfl)) (pv 2)) (m7 r9 (t9 (pv 4) rfl) g8 (λ_ _=>rfl))) Af)
    (c8 (i7 (i:=5) bZ.nd rfl (Or.inl rfl) (i5 C7 (pv 2) (i5 (P5 dp) (i5 i4 (m7 r9 (t9 (pv 4) rfl) g8 (λ_ _=>rfl)) (pv 1)) (m7 r9 (t9 (pv 4) rfl) g8 (λ_ _=>rfl)))))
    (c8 (j8 (kl PySem.F.plainAttrs_list PySem.F.slot_list_append PySem.F.type_list_append Z8 (pv 3) (c7 (z9 (c7 (pv 1) (c7 (pv 5) d4))) d4)))
    (d7 (i7 (i:=2) bZ.nd rfl (Or.inl rfl) (i5 Y2 (pv 5) (i5 (P5 dp) (i5 i4 (m7 r9 (t9 (pv 4) rfl) g8 (λ_ _=>rfl)) (pv 1)) (m7 r9 (t9 (pv 4) rfl) g8 (λ_ _=>rfl))))))))))
   (d7 (j1 (pv 3))))) ?_
  have hlS:ss.length=ts.length:=Paired.length hpS;have hok:=mL hpS;refine⟨(by show 0<=sizeLine;decide),λM hM=>?_⟩;have e0:j6 [] G H G (i8 H M (.lst [])):=(j6.refl sm).lend hM;have oM0:M7 G (i8 H M (.lst [])) M (.lst []):=⟨c9,sm.free hM⟩;refine a0 _ rfl (g9 LS rfl (l9 _ (e0.sub.seq hLS)) (P7 (K:=K) (a:=LS) (xs:=ss) (λi σ H'=>∃ (G':Hp) (ms:List V) (r4 r5:Option V),σ=[some (.ref LS),some (.int (Ma.bF (ts.take i) h0 c0).1),some (.int (Ma.bF (ts.take i) h0 c0).2),some (.ref M),r4,r5]/\j6 [] G H G' H'/\M7 G' H' M (.lst ms)/\Paired (pI K G') ms (Ma.A9 (ts.take i) h0 c0))
   (q0 G ([]) none none rfl e0 oM0 .nil) (λi σ H' _ h0=>by obtain⟨G',_,_,_,_,e,_⟩:=h0;exact e.sub.seq (e.grow.seq hLS)) ?_ ?_))
  ·rintro i u σ H1 hu ⟨G1,ms,r4,r5,rfl,e1,oM,hp⟩;obtain⟨t,ht,hst⟩:=D0 hpS hu;have hst1:=hst.mono e1.grow;obtain⟨⟨y,dy,vw,vb,vh,vs,vd,vc,vl,rfl,hy,⟨p1,rfl,f1⟩,⟨p2,rfl,f2⟩,⟨p3,rfl,f3⟩,_⟩,ok⟩:=hst1;have hy':=e1.sub _ _ hy;have s1:=e1.sub;have hi:i<ts.length:=(List.getElem?_eq_some_iff.mp ht).1;have hil:(ts.take i).length=i:=by rw[List.length_take];omega
   obtain⟨bh1,bc1⟩:=si (ts.take i) n h0 c0 (λz hz=>hok z (List.mem_of_mem_take hz)) bh bc;rw[hil]at bh1 bc1;have htk:ts.take (i+1)=ts.take i++[t]:=by rw[List.take_add_one,ht];rfl
   generalize hL:Ma.bF (ts.take i) h0 c0=L at bh1 bc1⊢;obtain⟨hh,aa⟩:=L;obtain⟨b1,b2,b3⟩:=Ma.xx ok bh1 bc1;refine a0 _ rfl (a0 _ rfl (l4 y CT dy _ _ rfl hy' T.cl T.n2 rfl (j5 p1 _ _ _ rfl rfl (s1.seqT f1) rfl (a0 _ rfl (i3 _ _ rfl rfl ⟨ok.walk.num.mono (by decide),bc1.mono (by omega)⟩ (a0 _ rfl (l4 y CT dy _ _ rfl hy' T.cl T.n2 rfl (j5 p1 _ _ _ rfl rfl (s1.seqT f1) rfl (i3 _ _ rfl rfl (Ma.D4 _) (h9 _ _ rfl rfl ?_))))))))));have w1:Int.fdiv (t.walk.num*aa) (t.walk.den:Int)=t.walk.num*aa/t.walk.den:=ao (den_pos _);have w2:∀ x:Int,Int.fdiv (t.before.num*x) (t.before.den:Int)=t.before.num*x/t.before.den:=λx=>ao (den_pos _);have w3:∀ x:Int,Int.fdiv (t.behind.num*x) (t.behind.den:Int)=t.behind.num*x/t.behind.den:=λx=>ao (den_pos _);have d1:B 60000000 (hh+Int.fdiv (t.walk.num*aa) (t.walk.den:Int)):=by rw[w1];exact b1.mono (by omega)
   refine a0 _ rfl (a0 _ rfl (l4 y CT dy _ _ rfl hy' T.cl T.n3 rfl (j5 p2 _ _ _ rfl rfl (s1.seqT f2) rfl (a0 _ rfl (i3 _ _ rfl rfl ⟨ok.before.num.mono (by decide),d1.mono (by decide)⟩ (a0 _ rfl (l4 y CT dy _ _ rfl hy' T.cl T.n3 rfl (j5 p2 _ _ _ rfl rfl (s1.seqT f2) rfl (i3 _ _ rfl rfl (Ma.D4 _) (h9 _ _ rfl rfl ?_))))))))));refine g9 _ rfl (.inl ⟨rfl,l9 _ (C9.of oM.at_)⟩) (a0 _ rfl (g9 _ rfl (by show 2<=sizeLine;decide) (λT2 hT2=>?_)));have ne2:M≠T2:=j3 oM.at_ hT2;have hml:ms.length<sizeLine:=by
    have:=Paired.length hp;rw[this,V9,hil];exact Nat.lt_of_lt_of_le (Nat.lt_of_lt_of_le hi hlen) (by decide)
   refine z8 M ms _ rfl rfl (by rw[i0 ne2];exact oM.at_) hml ?_;have e2:=e1.lay hT2 (o:=.tup [.int (hh+Int.fdiv (t.walk.num*aa) (t.walk.den:Int)),.int (aa+Int.fdiv (t.before.num*(hh+Int.fdiv (t.walk.num*aa) (t.walk.den:Int))) (t.before.den:Int))]);have gT:G1 T2=none:=s1.free hT2;have g12:=Z2 (o:=.tup [.int (hh+Int.fdiv (t.walk.num*aa) (t.walk.den:Int)),.int (aa+Int.fdiv (t.before.num*(hh+Int.fdiv (t.walk.num*aa) (t.walk.den:Int))) (t.before.den:Int))]) gT;have gM:(i8 G1 T2 (.tup [.int (hh+Int.fdiv (t.walk.num*aa) (t.walk.den:Int)),.int (aa+Int.fdiv (t.before.num*(hh+Int.fdiv (t.walk.num*aa) (t.walk.den:Int))) (t.before.den:Int))])) M=none:=by rw[i0 ne2];exact oM.fr
   have e3:=e2.put (.inl hM) gM (o:=.lst (ms++[.ref T2]));have hy3:=e3.sub _ _ (g12 _ _ hy);have f33:=e3.sub.seqT (g12.seqT f3);refine a0 _ rfl (a0 _ rfl (l4 y CT dy _ _ rfl hy3 T.cl T.n4 rfl (j5 p3 _ _ _ rfl rfl f33 rfl (a0 _ rfl (i3 _ _ rfl rfl ⟨ok.behind.num.mono (by decide),d1.mono (by decide)⟩ (a0 _ rfl (l4 y CT dy _ _ rfl hy3 T.cl T.n4 rfl (j5 p3 _ _ _ rfl rfl f33 rfl (i3 _ _ rfl rfl (Ma.D4 _) (h9 _ _ rfl rfl ?_))))))))));refine q0 _ (ms++[.ref T2]) (some (.ref y)) (some (.int (aa+Int.fdiv (t.before.num*(hh+Int.fdiv (t.walk.num*aa) (t.walk.den:Int))) (t.before.den:Int)))) ?_ e3 ⟨c9,gM⟩ ?_
   ·rw[htk,jo,hL];simp only[w1,w2,w3];rfl
   ·rw[htk,eZ,hL];refine Paired.snoc (Paired.map' (λv pr h=>pI.mono g12 v pr h) hp) (a0 T2 rfl ?_);refine W2.of ?_;rw[c9];simp only[w1,w2]
  ·rintro σ H1 ⟨G1,ms,r4,r5,rfl,e1,oM,hp⟩;rw[hlS,List.take_length]at hp;have e2:=e1.freeze oM.at_ hM;refine a0 _ rfl (kk _ _ _ e2 (h9 M ms rfl (.of c9) (Paired.map' (λv pr h=>pI.mono (Z2 oM.fr) v pr h) hp)))
def ny (K:W.Frag)(CT:Addr):Sp:=λvs H Q _=>∃ (G:Hp) (v:V) (t:C0) (y a z b:Int) (n:Nat),vs=[v,.int y,.int a,.int z,.int b]/\l7 G H/\dY K CT G v t/\B n y/\B n a/\B n z/\B n b/\n<=1000000/\∀ v G' H',j6 [] G H G' H'->(∃ l,v=.ref l/\G' l=some (.lst ((Ma.cM t y a z b).map V.int)))->Q v H'
theorem bW:i6 ["station","y","a","z","b","scale","square","bend","conic","colour","core","invariant"] ["station","y","a","z","b"] (d8 W7):=⟨rfl,rfl,rfl,by decide +kernel,rfl,by decide +kernel,by decide +kernel⟩
theorem nW {q:Rat}{t:C0}(h:Sz 400 q)(ok:K5 t):B 2001 (Ma.F0 q ((Ma.y8 t:Nat):Int)) :=
 (h.num.mul (B.div (d:=q.den) (show B 1601 ((Ma.y8 t:Nat):Int) from Ma.rD t ok))).mono (by decide)
theorem Cy {f:Addr}{fd:FuncData}(F:F1 K "shaped_part" "shaped_part" W7 f fd)(T:Tt K CT)(Ds:B8 prog w K mg base 3 "station_scale" ["station"] (wc K CT))(Do:B8 prog w K mg base 1 "on_scale" ["number","scale"] (we K)) :
  o8 prog w K mg base (A7 prog w) 4 f fd ["station","y","a","z","b"] (ny K CT):=by
 refine F.okX bW (λvs H Q E h=>?_) (λcdv A outer s H vs Q E hr h=>?_)
 ·obtain⟨G,v,t,y,a,z,b,n,rfl,_⟩:=h;rfl
 ·obtain⟨G,v,t,y,a,z,b,n,rfl,sm,hst,by_,ba,bz,bb,hn,kk⟩:=h;have hr1:=hr.mono (show 1<=3 by decide);refine a0 _ (c8 (i7 (i:=5) bW.nd rfl (Or.inl rfl) (d9 Ds hr d6 (c7 (pv 0) d4)))
   (c8 (i7 (i:=6) bW.nd rfl (Or.inl rfl) (d9 Do hr1 d6 (c7 (t9 (pv 0) rfl) (c7 (pv 5) d4))))
   (c8 (i7 (i:=7) bW.nd rfl (Or.inl rfl) (d9 Do hr1 d6 (c7 (t9 (pv 0) rfl) (c7 (pv 5) d4))))
   (c8 (i7 (i:=8) bW.nd rfl (Or.inl rfl) (i5 i4 (d9 Do hr1 d6 (c7 (t9 (pv 0) rfl) (c7 (pv 5) d4))) (pv 1)))
   (c8 (i7 (i:=9) bW.nd rfl (Or.inl rfl) (i5 i4 (d9 Do hr1 d6 (c7 (t9 (pv 0) rfl) (c7 (pv 5) d4))) (pv 1)))
   (c8 (i7 (i:=10) bW.nd rfl (Or.inl rfl) (i5 i4 (pv 1) (i5 Y2 (i5 i4 (pv 7) (pv 1)) (i5 i4 (pv 6) (pv 2)))))
   (c8 (i7 (i:=11) bW.nd rfl (Or.inl rfl) (i5 Y2 (i5 i4 (pv 2) (pv 3)) (i5 i4 (pv 4) (pv 1))))
   (d7 (j1 (C5 (c7 (i5 C7 (i5 i4 (i5 i4 (pv 2) (pv 2)) (pv 10)) (i5 i4 (i5 i4 (pv 8) (pv 1)) (i5 i4 (pv 1) (pv 1)))) (c7 (i5 C7 (i5 i4 (i5 i4 (pv 2) (pv 4)) (pv 10)) (i5 i4 (i5 i4 (pv 8) (pv 1)) (i5 i4 (pv 1) (pv 3)))) (c7 (i5 C7 (i5 i4 (i5 i4 (pv 4) (pv 4)) (pv 10)) (i5 i4 (i5 i4 (pv 8) (pv 1)) (i5 i4 (pv 3) (pv 3)))) (c7 (i5 i4 (i5 i4 (eM aA (pv 7)) (pv 11)) (pv 11)) (c7 (i5 C7 (i5 i4 (pv 4) (i5 Y2 (i5 i4 (i5 i4 (pv 7) (pv 3)) (i5 Y2 (i5 i4 (i5 i4 g8 (pv 4)) (pv 1)) (i5 i4 (pv 2) (pv 3)))) (i5 i4 (i5 i4 (pv 6) (pv 1)) (i5 i4 (pv 4) (pv 4))))) (i5 i4 (i5 i4 (pv 8) (pv 3)) (i5 i4 (pv 3) (pv 3)))) (c7 (i5 i4 (pv 2) (pv 9)) (c7 (i5 i4 (pv 4) (pv 9)) d4))))))))))))))))) ?_
  have hst':=hst;obtain⟨⟨x,dx,vw,vb,vh,vs,vd,vc,vl,rfl,hx,_,_,_,⟨p1,rfl,f1⟩,⟨p2,rfl,f2⟩,⟨p3,rfl,f3⟩,⟨p4,rfl,f4⟩⟩,ok⟩:=hst;refine a0 _ rfl (m8 G (.ref x) t rfl sm hst' (λG1 H1 e1=>?_));have hx1:=e1.sub _ _ (e1.grow _ _ hx);have bs:B 1601 ((Ma.y8 t:Nat):Int):=Ma.rD t ok;have bsq:=nW ok.square ok;have bbd:=nW ok.bend ok;have bcn:=nW ok.conic ok;have bcl:=nW ok.colour ok;have bcny:=bcn.mul by_;have bcly:=bcl.mul by_;have b2:=bbd.mul by_;have b3:=bsq.mul ba;have b4:=(b2.mono (show _<=1*n+2001 by omega)).sub (b3.mono (show _<=1*n+2001 by omega));have b5:=by_.mul b4;have b6:=ba.mul bz;have b7:=bb.mul by_;have b8:=(b6.mono (show _<=2*n+0 by omega)).sub (b7.mono (show _<=2*n+0 by omega));have b9:=ba.mul ba;have b10:=b9.mul b5;have b11:=bcny.mul by_;have b12:=by_.mul by_;have b13:=b11.mul b12;have b14:=(b10.mono (show _<=4*n+2002 by omega)).add (b13.mono (show _<=4*n+2002 by omega));have b15:=ba.mul bb;have b16:=b15.mul b5;have b17:=by_.mul bz;have b18:=b11.mul b17;have b19:=(b16.mono (show _<=4*n+2002 by omega)).add (b18.mono (show _<=4*n+2002 by omega));have b20:=bb.mul bb;have b21:=b20.mul b5;have b22:=bz.mul bz;have b23:=b11.mul b22;have b24:=(b21.mono (show _<=4*n+2002 by omega)).add (b23.mono (show _<=4*n+2002 by omega));have b25:=bbd.neg.mul b8;have b26:=b25.mul b8;have b27:=bbd.mul bz;have k28:B 2 2:=by unfold Ma.B;decide
  have b29:=k28.mul bb;have b30:=b29.mul by_;have b31:=(b30.mono (show _<=2*n+2 by omega)).sub (b6.mono (show _<=2*n+2 by omega));have b32:=b27.mul b31;have b33:=bsq.mul by_;have b34:=b33.mul b20;have b35:=(b32.mono (show _<=3*n+2004 by omega)).sub (b34.mono (show _<=3*n+2004 by omega));have b36:=bb.mul b35;have b37:=bcny.mul bz;have b38:=b37.mul b22;have b39:=(b36.mono (show _<=4*n+2005 by omega)).add (b38.mono (show _<=4*n+2005 by omega));have b40:=ba.mul bcly;have b41:=bb.mul bcly;refine a0 _ rfl (l4 x CT dx _ _ rfl hx1 T.cl T.n5 rfl (a0 _ rfl (l8 G1 _ t.square _ rfl e1.sub (a0 p1 rfl (e1.grow.seqT f1)) (ok.square.mono (by decide)) (bs.mono (by decide)) ?_)));refine a0 _ rfl (l4 x CT dx _ _ rfl hx1 T.cl T.n6 rfl (a0 _ rfl (l8 G1 _ t.bend _ rfl e1.sub (a0 p2 rfl (e1.grow.seqT f2)) (ok.bend.mono (by decide)) (bs.mono (by decide)) ?_)));refine a0 _ rfl (l4 x CT dx _ _ rfl hx1 T.cl T.n7 rfl (a0 _ rfl (l8 G1 _ t.conic _ rfl e1.sub (a0 p3 rfl (e1.grow.seqT f3)) (ok.conic.mono (by decide)) (bs.mono (by decide)) (a0 _ rfl (i3 _ _ rfl rfl ⟨bcn.mono (by omega),by_.mono (by omega)⟩ ?_)))));refine a0 _ rfl (l4 x CT dx _ _ rfl hx1 T.cl T.n8 rfl (a0 _ rfl (l8 G1 _ t.colour _ rfl e1.sub (a0 p4 rfl (e1.grow.seqT f4)) (ok.colour.mono (by decide)) (bs.mono (by decide)) (a0 _ rfl (i3 _ _ rfl rfl ⟨bcl.mono (by omega),by_.mono (by omega)⟩ ?_)))));refine a0 _ rfl (a0 _ rfl (a0 _ rfl (i3 _ _ rfl rfl ⟨bbd.mono (by omega),by_.mono (by omega)⟩ (a0 _ rfl (a0 _ rfl (i3 _ _ rfl rfl ⟨bsq.mono (by omega),ba.mono (by omega)⟩ (h9 _ _ rfl rfl (i3 _ _ rfl rfl ⟨by_.mono (by omega),b4.mono (by omega)⟩ ?_))))))));refine a0 _ rfl (a0 _ rfl (i3 _ _ rfl rfl ⟨ba.mono (by omega),bz.mono (by omega)⟩ (a0 _ rfl (a0 _ rfl (i3 _ _ rfl rfl ⟨bb.mono (by omega),by_.mono (by omega)⟩ (h9 _ _ rfl rfl ?_))))));refine a0 _ rfl (a0 _ rfl (i3 _ _ rfl rfl ⟨ba.mono (by omega),ba.mono (by omega)⟩ (a0 _ rfl (i3 _ _ rfl rfl ⟨b9.mono (by omega),b5.mono (by omega)⟩ (a0 _ rfl (a0 _ rfl (i3 _ _ rfl rfl ⟨bcny.mono (by omega),by_.mono (by omega)⟩ (a0 _ rfl (a0 _ rfl (i3 _ _ rfl rfl ⟨by_.mono (by omega),by_.mono (by omega)⟩ (i3 _ _ rfl rfl ⟨b11.mono (by omega),b12.mono (by omega)⟩ (h9 _ _ rfl rfl (a0 _ rfl (a0 _ rfl (i3 _ _ rfl rfl ⟨ba.mono (by omega),bb.mono (by omega)⟩ (a0 _ rfl (i3 _ _ rfl rfl ⟨b15.mono (by omega),b5.mono (by omega)⟩ (a0 _ rfl (a0 _ rfl (i3 _ _ rfl rfl ⟨bcny.mono (by omega),by_.mono (by omega)⟩ (a0 _ rfl (a0 _ rfl (i3 _ _ rfl rfl ⟨by_.mono (by omega),bz.mono (by omega)⟩ (i3 _ _ rfl rfl ⟨b11.mono (by omega),b17.mono (by omega)⟩ (h9 _ _ rfl rfl (a0 _ rfl (a0 _ rfl (i3 _ _ rfl rfl ⟨bb.mono (by omega),bb.mono (by omega)⟩ (a0 _ rfl (i3 _ _ rfl rfl ⟨b20.mono (by omega),b5.mono (by omega)⟩ (a0 _ rfl (a0 _ rfl (i3 _ _ rfl rfl ⟨bcny.mono (by omega),by_.mono (by omega)⟩ (a0 _ rfl (a0 _ rfl (i3 _ _ rfl rfl ⟨bz.mono (by omega),bz.mono (by omega)⟩ (i3 _ _ rfl rfl ⟨b11.mono (by omega),b22.mono (by omega)⟩ (h9 _ _ rfl rfl (a0 _ rfl (a0 _ rfl (a0 _ rfl (i3 _ _ rfl rfl ⟨bbd.neg.mono (by omega),b8.mono (by omega)⟩ (a0 _ rfl (i3 _ _ rfl rfl ⟨b25.mono (by omega),b8.mono (by omega)⟩ (a0 _ rfl (a0 _ rfl (a0 _ rfl (i3 _ _ rfl rfl ⟨bbd.mono (by omega),bz.mono (by omega)⟩ (a0 _ rfl (i3 _ _ rfl rfl ⟨k28.mono (by omega),bb.mono (by omega)⟩ (a0 _ rfl (i3 _ _ rfl rfl ⟨b29.mono (by omega),by_.mono (by omega)⟩ (a0 _ rfl (a0 _ rfl (i3 _ _ rfl rfl ⟨ba.mono (by omega),bz.mono (by omega)⟩ (h9 _ _ rfl rfl (i3 _ _ rfl rfl ⟨b27.mono (by omega),b31.mono (by omega)⟩ (a0 _ rfl (a0 _ rfl (i3 _ _ rfl rfl ⟨bsq.mono (by omega),by_.mono (by omega)⟩ (a0 _ rfl (a0 _ rfl (i3 _ _ rfl rfl ⟨bb.mono (by omega),bb.mono (by omega)⟩ (i3 _ _ rfl rfl ⟨b33.mono (by omega),b20.mono (by omega)⟩ (h9 _ _ rfl rfl (i3 _ _ rfl rfl ⟨bb.mono (by omega),b35.mono (by omega)⟩ (a0 _ rfl (a0 _ rfl (i3 _ _ rfl rfl ⟨bcny.mono (by omega),bz.mono (by omega)⟩ (a0 _ rfl (a0 _ rfl (i3 _ _ rfl rfl ⟨bz.mono (by omega),bz.mono (by omega)⟩ (i3 _ _ rfl rfl ⟨b37.mono (by omega),b22.mono (by omega)⟩ (h9 _ _ rfl rfl (a0 _ rfl (a0 _ rfl (i3 _ _ rfl rfl ⟨ba.mono (by omega),bcly.mono (by omega)⟩ (a0 _ rfl (a0 _ rfl (J5 _ _ rfl rfl ⟨bb.mono (by omega),bcly.mono (by omega)⟩ (by show 7<=sizeLine;decide) (λl hl=>?_)))))))))))))))))))))))))))))))))))))))))))))))))))))))))))))))))))))))))))))))));exact kk _ _ _ (e1.lay hl) (a0 l rfl c9)
structure Ey (K:W.Frag)(mg:Str->Option Value)(CP:Addr):Prop where
 np:XC K mg "NotThere" CP
 list_:mg "list"=none
 zip_:mg "zip"=none
def IL (G:Hp)(v:V)(l:List Int):Prop:=∃ p,v=.ref p/\G p=some (.lst (l.map V.int))
def pX (K:W.Frag)(CT CP:Addr):Sp:=λvs H Q E=>∃ (G:Hp) (v m c:V) (t:C0) (mi ci:Int×Int) (n:Nat),vs=[v,m,c]/\l7 G H/\dY K CT G v t/\pI K G m mi/\pI K G c ci/\B n mi.1/\B n mi.2/\B n ci.1/\B n ci.2/\n<=1000000 /\
 match Ma.P4 t mi ci with
 |some l=>∀ v G' H',j6 [] G H G' H'->IL G' v l->Q v H'
 |none=>∀ H',E (.ref CP) none H'
theorem BP:i6 ["station","marginal","chief"] ["station","marginal","chief"] (d8 fS):=⟨rfl,rfl,rfl,by decide +kernel,rfl,by decide +kernel,by decide +kernel⟩
theorem CM {f:Addr}{fd:FuncData}(F:F1 K "part_of" "part_of" fS f fd)(T:Tt K CT)(Z:Ey K mg CP)(Ds:B8 prog w K mg base 4 "shaped_part" ["station","y","a","z","b"] (ny K CT)) :
  o8 prog w K mg base (A7 prog w) 5 f fd ["station","marginal","chief"] (pX K CT CP):=by
 refine F.okX BP (λvs H Q E h=>?_) (λcdv A outer s H vs Q E hr h=>?_)
 ·obtain⟨G,v,m,c,t,mi,ci,n,rfl,_⟩:=h;rfl
 ·obtain⟨G,v,_,_,t,mi,ci,n,rfl,sm,hst,⟨tm,rfl,hm⟩,⟨tc,rfl,hc⟩,b1,b2,b3,b4,hn,kk⟩:=h;refine a0 _ (c8 (y2 (E8 (t9 (pv 0) rfl)) (d7 (j1 (C5 (c7 g8 (c7 g8 (c7 g8 (c7 g8 (c7 g8 (c7 g8 (c7 g8 d4)))))))))) l6)
   (c8 (y2 (m9 K2 (m7 r9 (pv 1) g8 (λ_ _=>rfl)) g8 (n9 _)) (d7 (K8 N0 rfl (by rfl) Z.np.m Z.np.c)) l6)
   (d7 (j1 (d9 Ds hr d6 (c7 (pv 0) (c7 (m7 r9 (pv 1) g8 (λ_ _=>rfl)) (c7 (m7 r9 (pv 1) g8 (λ_ _=>rfl)) (c7 (m7 r9 (pv 2) g8 (λ_ _=>rfl)) (c7 (m7 r9 (pv 2) g8 (λ_ _=>rfl)) d4)))))))))) ?_
  have hst':=hst;obtain⟨⟨x,dx,vw,vb,vh,vs,vd,vc,vl,rfl,hx,_⟩,ok⟩:=hst;have hx1:=sm _ _ hx;unfold Ma.P4 at kk;refine a0 _ rfl (l4 x CT dx _ _ rfl hx1 T.cl T.n1 rfl (a0 _ rfl (N9 (λh1=>?_) (λh1=>?_))))
  ·rw[if_pos h1]at kk;refine⟨(by show 7<=sizeLine;decide),λl hl=>?_⟩;exact kk _ _ _ ((j6.refl sm).lay hl) (a0 l rfl c9)
  rw[if_neg (by rw[h1];decide)]at kk;refine a0 _ rfl (l8 tm _ _ _ rfl rfl (sm.seqT hm) rfl rfl (a0 _ rfl (N5 (λh2=>?_) (λh2=>?_))))
  ·rw[if_pos h2]at kk;exact kk _
  ·rw[if_neg h2]at kk;refine a0 _ rfl (a0 _ rfl (j5 tm _ _ _ rfl rfl (sm.seqT hm) rfl (a0 _ rfl (j5 tm _ _ _ rfl rfl (sm.seqT hm) rfl (a0 _ rfl (j5 tc _ _ _ rfl rfl (sm.seqT hc) rfl (a0 _ rfl (j5 tc _ _ _ rfl rfl (sm.seqT hc) rfl (p9 G _ t _ _ (I0 _ _ n ⟨rfl,sm,hst',b1,b2,b3,b4,hn,λv G' H' e hv=>kk _ _ _ e hv⟩))))))))))
def HD (K:W.Frag)(G:Hp)(v:V)(pr:(Int×Int)×(Int×Int)):Prop:=∃ t m c,v=.ref t/\W2 K G t [m,c]/\pI K G m pr.1/\pI K G c pr.2
def GX (K:W.Frag)(G:Hp)(v:V)(prs:List ((Int×Int)×(Int×Int))):Prop:=∃ L vs,v=.ref L/\G L=some (.lst vs)/\Paired (HD K G) vs prs
def wj (K:W.Frag)(CT:Addr):Sp:=λvs H Q _=>∃ (G:Hp) (a r:V) (N:Int) (ts:List C0) (y v z u:Rat) (n:Nat),vs=[a,.int N,r]/\l7 G H/\mQ K CT G a ts/\Ls K (Fr K) G r [y,v,z,u]/\(∀ q∈[y,v,z,u],Sz 1000 q)/\B n N/\n+1000+263*(ts.length+1)+200<=60000000/\ts.length<=1000/\∀ x G' H',j6 [] G H G' H'->GX K G' x (Ma.du ts N y v z u)->Q x H'
theorem iI:i6 ["stations","lengths","rays","begun","marginal","chief","number"] ["stations","lengths","rays"] (d8 O8):=⟨rfl,rfl,rfl,by decide +kernel,rfl,by decide +kernel,by decide +kernel⟩
theorem S2 {G H:Hp}{p:Addr}{o:HO}(sm:l7 G H)(h:H p=none):l7 G (i8 H p o):=(j6.lend (M:=[]) (j6.refl sm) h).sub
theorem U4 {q:Rat}{N:Int}{k n:Nat}(h:Sz k q)(hN:B n N):B (k+n) (Ma.F0 q N):=h.num.mul (B.div (d:=q.den) hN)
theorem ja {α β γ δ:Type}{R:α->β->Prop}{S:γ->δ->Prop}{T:α×γ->β×δ->Prop}(hT:∀ a b c d,R a b->S c d->T (a,c) (b,d)):∀ {xs:List α}{ys:List β},Paired R xs ys->∀ {zs:List γ}{us:List δ},Paired S zs us->Paired T (xs.zip zs) (ys.zip us):=by
 intro xs ys h
 induction h with
 |nil=>intro zs us h';exact .nil
 |@cons a b l m h t ih =>
  intro zs us h';cases h' with
  |nil=>exact .nil
  |cons h2 t2=>exact .cons (hT _ _ _ _ h h2) (ih t2)
theorem gv {α β γ:Type}{R:α->β->Prop}{S:β->γ->Prop}{T:α->γ->Prop}(hT:∀ a b c,R a b->S b c->T a c):∀ {xs:List α}{ys:List β},Paired R xs ys->∀ {zs:List γ},Paired S ys zs->Paired T xs zs:=by
 intro xs ys h
 induction h with
 |nil=>intro zs h';cases h';exact .nil
 |@cons a b l m h t ih =>
  intro zs h';cases h' with
  |cons h2 t2=>exact .cons (hT _ _ _ h h2) (ih t2)
theorem dM {α β γ:Type}{f:γ->α}{R:α->β->Prop}:∀ {xs:List γ}{ys:List β},Paired (λc b=>R (f c) b) xs ys->Paired R (xs.map f) ys
 |_,_,.nil=>.nil
 |_,_,.cons h t=>.cons h (dM t)
theorem CV {f:Addr}{fd:FuncData}(F:F1 K "meetings_of" "meetings_of" O8 f fd)(Z:Ey K mg CP)(Do:B8 prog w K mg base 1 "on_scale" ["number","scale"] (we K))(Df:B8 prog w K mg base 1 "follow" ["stations","height","angle"] (iD K CT)) :
  o8 prog w K mg base (A7 prog w) 2 f fd ["stations","lengths","rays"] (wj K CT):=by
 refine F.okX iI (λvs H Q E h=>?_) (λcdv A outer s H vs Q E hr h=>?_)
 ·obtain⟨G,a,r,N,ts,y,v,z,u,n,rfl,_⟩:=h;rfl
 ·obtain⟨G,a,_,N,ts,y,v,z,u,n,rfl,sm,hts,⟨LR,rs,rfl,hLR,hpR⟩,hsz,hN,hbd,hlen,kk⟩:=h;refine a0 _ (c8 (cN (i:=3) (own:=[("number",6)]) N0 rfl rfl rfl rfl iI.nd rfl rfl (aC rfl rfl rfl rfl) (K9 (pv 2)) (N7 (show jG ["stations","lengths","rays","begun","marginal","chief","number"] (d8 O8) _ _=true by decide +kernel)) (λ_ _ _ _ _=>y9 (i:=6) iI.nd rfl (Or.inl rfl)) (λ_ _ _ _ _=>R4) (λ_ _ _ _ _ xe' pn' hp'=>d9 Do hr hp' (c7 (pv 6) (c7 (pv 1) d4))))
   (c8 (i7 (i:=4) iI.nd rfl (Or.inl rfl) (d9 Df hr d6 (c7 (pv 0) (c7 (m7 u9 (pv 3) g8 (λ_ _=>rfl)) (c7 (m7 u9 (pv 3) g8 (λ_ _=>rfl)) d4)))))
   (c8 (i7 (i:=5) iI.nd rfl (Or.inl rfl) (d9 Df hr d6 (c7 (pv 0) (c7 (m7 u9 (pv 3) g8 (λ_ _=>rfl)) (c7 (m7 u9 (pv 3) g8 (λ_ _=>rfl)) d4)))))
   (d7 (j1 (iX rfl (by rfl) Z.list_ (by rfl) Z.zip_ (c7 (pv 4) (c7 (pv 5) d4)))))))) ?_
  have hlR:rs.length=4:=Paired.length hpR;refine a0 _ rfl (g9 LR rfl (l9 _ (sm.seq hLR)) (λD hD=>eU (K:=K) (a:=LR) (xs:=rs) (λi Hc=>Hc=i8 H D (.lst (([y,v,z,u].take i).map λq=>V.int (Ma.F0 q N)))) rfl (λi Hc _ e=>by rw[e];exact(S2 sm hD).seq hLR) ?_ ?_))
  ·rintro i x Hc hx rfl;obtain⟨q,hq,hf⟩:=D0 hpR hx;have hqm:=List.mem_of_getElem? hq;refine⟨rfl,a0 _ rfl (a0 _ rfl (l8 G x q N rfl (S2 sm hD) hf ((hsz q hqm).mono (by decide)) (hN.mono (by omega)) (g9 _ c9 ?_ ?_)))⟩
   ·rw[List.length_map,List.length_take];exact Nat.lt_of_le_of_lt (Nat.min_le_right _ _) (show 4<sizeLine by decide)
   ·rw[A8,List.take_add_one,hq,List.map_append];rfl
  ·rintro Hc rfl;rw[hlR];have e1:j6 [] G H (i8 G D (.lst [.int (Ma.F0 y N),.int (Ma.F0 v N),.int (Ma.F0 z N),.int (Ma.F0 u N)])) (i8 H D (.lst [.int (Ma.F0 y N),.int (Ma.F0 v N),.int (Ma.F0 z N),.int (Ma.F0 u N)])):=(j6.refl sm).lay hD;have hD1:C9 K (i8 H D (.lst [.int (Ma.F0 y N),.int (Ma.F0 v N),.int (Ma.F0 z N),.int (Ma.F0 u N)])) D [.int (Ma.F0 y N),.int (Ma.F0 v N),.int (Ma.F0 z N),.int (Ma.F0 u N)]:=.of c9;generalize hG1:i8 G D (.lst [.int (Ma.F0 y N),.int (Ma.F0 v N),.int (Ma.F0 z N),.int (Ma.F0 u N)])=G1 at e1;have gD:C9 K G1 D [.int (Ma.F0 y N),.int (Ma.F0 v N),.int (Ma.F0 z N),.int (Ma.F0 u N)]:=by rw[<-hG1];exact .of c9
   have oy:B (1000+n) (Ma.F0 y N):=U4 (hsz y (by simp)) hN;have ov:B (1000+n) (Ma.F0 v N):=U4 (hsz v (by simp)) hN;have oz:B (1000+n) (Ma.F0 z N):=U4 (hsz z (by simp)) hN;have ou:B (1000+n) (Ma.F0 u N):=U4 (hsz u (by simp)) hN;refine a0 _ rfl (a0 _ rfl (j5 D _ _ _ rfl rfl hD1 rfl (a0 _ rfl (j5 D _ _ _ rfl rfl hD1 rfl (p9 G1 a ts _ _ (l9 (1000+n) ⟨rfl,e1.sub,hts.mono e1.grow,oy,ov,(by omega),hlen,λv1 G2 H2 e2 hm=>?_⟩))))));have hD2:=e2.sub.seq (e2.grow.seq gD);have e02:=e1.trans e2;refine a0 _ rfl (a0 _ rfl (j5 D _ _ _ rfl rfl hD2 rfl (a0 _ rfl (j5 D _ _ _ rfl rfl hD2 rfl (p9 G2 a ts _ _ (l9 (1000+n) ⟨rfl,e2.sub,hts.mono e02.grow,oz,ou,(by omega),hlen,λv2 G3 H3 e3 hc=>?_⟩))))));obtain⟨L1,m1,rfl,hL1,hp1⟩:=hm;obtain⟨L2,m2,rfl,hL2,hp2⟩:=hc;have e03:=e02.trans e3;refine a0 _ rfl (a0 _ rfl (q0 L1 L2 m1 m2 rfl (e3.sub.seq (e3.grow.seq hL1)) (e3.sub.seq hL2) (λl hl=>qU e3.sub hl λG4 H4 Ts e4 hg hpT=>?_)));refine kk _ _ _ (e03.trans e4) (h9 l _ rfl hg (dM ?_));have q1:Paired (pI K G4) m1 (Ma.A9 ts (Ma.F0 y N) (Ma.F0 v N)):=Paired.map' (λv pr h=>pI.mono (e3.grow.trans e4.grow) v pr h) hp1;have q2:Paired (pI K G4) m2 (Ma.A9 ts (Ma.F0 z N) (Ma.F0 u N)):=Paired.map' (λv pr h=>pI.mono e4.grow v pr h) hp2;have q3:=ja (T:=λ(a:V×V) (b:(Int×Int)×(Int×Int))=>pI K G4 a.1 b.1/\pI K G4 a.2 b.2) (λa b c d h1 h2=>⟨h1,h2⟩) q1 q2;exact gv (λT p b h1 h2=>(m8 T p.1 p.2 rfl (.of h1) h2.1 h2.2)) hpT q3
theorem kX:∀ (l:List (List Int×Int)) (tot:List Int) (p:List Int) (s cm:Int),Ma.gh tot (l++[(p,s)]) cm=List.zipWith (λt n=>t+n*(cm/s)) (Ma.gh tot l cm) p
 |[],tot,p,s,cm=>rfl
 | (q,r)::l,tot,p,s,cm=>kX l _ p s cm
theorem uW {tot p:List Int}{f:Int->Int->Int}{P:Int->Prop}(h:∀ t∈tot,∀ n∈p,P (f t n)):∀ x∈List.zipWith f tot p,P x:=by
 intro x hx;rw[List.mem_iff_getElem?]at hx;obtain⟨i,hi⟩:=hx;rw[List.getElem?_zipWith]at hi;cases h1:tot[i]? with
 |none=>rw[h1]at hi;cases hi
 |some t =>
  cases h2:p[i]? with
  |none=>rw[h1,h2]at hi;cases hi
  |some n =>
   rw[h1,h2]at hi;cases hi;exact h t (List.mem_of_getElem? h1) n (List.mem_of_getElem? h2)
theorem yE {f:Int->Int->Int}{tot p:List Int}{j:Nat}{t n:Int}(h1:tot[j]?=some t)(h2:p[j]?=some n):(List.zipWith f tot p).take (j+1)=(List.zipWith f tot p).take j++[f t n]:=by
 rw[List.take_add_one,List.getElem?_zipWith,h1,h2];rfl
theorem xy {l:List Int}{j:Nat}{v:V}(h:(l.map V.int)[j]?=some v):∃ x,l[j]?=some x/\v=.int x:=by
 rw[List.getElem?_map]at h;cases q:l[j]? with
 |none=>rw[q]at h;cases h
 |some x=>rw[q]at h;exact a0 x rfl ((Option.some.inj h).symm)
theorem IL.mono {G G':Hp}(s:l7 G G')(v:V)(l:List Int)(h:IL G v l):IL G' v l:=by
 obtain⟨p,e,h⟩:=h;exact a0 p e (s _ _ h)
def AV (K:W.Frag):Sp:=λvs H Q _=>∃ (G:Hp) (LP LS:Addr) (pv:List V) (ps:List (List Int)) (ss:List Nat) (cm:Int) (nb nc:Nat),vs=[.ref LP,.ref LS,.int cm]/\l7 G H/\C9 K G LP pv/\Paired (IL G) pv ps/\C9 K G LS (ss.map λ(n:Nat)=>V.int (n:Int))/\ps.length=ss.length/\(∀ p∈ps,p.length=7/\∀ x∈p,B nb x)/\(∀ n∈ss,0<n)/\B nc cm/\nb+nc+ps.length+10<=60000000/\∀ v G' H',j6 [] G H G' H'->IL G' v (Ma.gh Ma.S4 (ps.zip (ss.map λ(n:Nat)=>(n:Int))) cm)->Q v H'
theorem W4:i6 ["parts","scales","common","totals","part","scale","factor","total","number"] ["parts","scales","common"] (d8 V6):=⟨rfl,rfl,rfl,by decide +kernel,rfl,by decide +kernel,by decide +kernel⟩
theorem DH {f:Addr}{fd:FuncData}(F:F1 K "add_parts" "add_parts" V6 f fd)(Z:Ey K mg CP):o8 prog w K mg base (A7 prog w) 1 f fd ["parts","scales","common"] (AV K):=by
 refine F.okX W4 (λvs H Q E h=>?_) (λcdv A outer s H vs Q E hr h=>?_)
 ·obtain⟨G,LP,LS,pv,ps,ss,cm,nb,nc,rfl,_⟩:=h;rfl
 ·obtain⟨G,LP,LS,pvs,ps,ss,cm,nb,nc,rfl,sm,hLP,hpp,hLS,hll,hps,hss,hcm,hbd,kk⟩:=h;have dp:=fj (w:=w) (K:=K) (mg:=mg) (base:=base) (N:=["parts","scales","common","totals","part","scale","factor","total","number"]) (outer:=outer) (H0:=H) (E:=E) Y9 W4.gen W4.co hr;refine a0 _ (c8 (i7 (i:=3) W4.nd rfl (Or.inl rfl) (C5 (c7 g8 (c7 g8 (c7 g8 (c7 g8 (c7 g8 (c7 g8 (c7 g8 d4)))))))))
   (c8 (Q8 J3 rfl (qj (by rfl) Z.zip_ (c7 (pv 0) (c7 (pv 1) d4))) (lT rfl (P3 (y9 (i:=4) W4.nd rfl (Or.inl rfl)) (P3 (y9 (i:=5) W4.nd rfl (Or.inl rfl)) ic)))
    (c8 (i7 (i:=6) W4.nd rfl (Or.inr rfl) (i5 (P5 dp) (pv 2) (pv 5)))
    (d7 (iU (g:=Ee K 2 (oZ (dw 7) (oZ (dw 8) Ef))) (i:=3) (own:=[("total",7),("number",8)]) rfl W4.nd rfl rfl (aC rfl rfl rfl rfl) (qj (by rfl) Z.zip_ (c7 (pv 3) (c7 (pv 4) d4))) (N7 (show jG ["parts","scales","common","totals","part","scale","factor","total","number"] (d8 V6) _ _=true by decide +kernel)) (λ_ _ _ _ _=>lT rfl (P3 (y9 (i:=7) W4.nd rfl (Or.inl rfl)) (P3 (y9 (i:=8) W4.nd rfl (Or.inl rfl)) ic))) (λ_ _ _ _ _=>R4) (λ_ _ _ _ _=>i5 C7 (pv 7) (i5 i4 (pv 8) (pv 6)))))))
   (d7 (j1 (pv 3))))) ?_
  refine⟨(by show 7<=sizeLine;decide),λt0 ht0=>?_⟩;have e0:j6 [] G H (i8 G t0 (.lst (Ma.S4.map V.int))) (i8 H t0 (.lst (Ma.S4.map V.int))):=(j6.refl sm).lay ht0;have hpl:pvs.length=ps.length:=Paired.length hpp;refine a0 _ rfl (a0 _ rfl (q0 LP LS pvs _ rfl (e0.sub.seq (e0.grow.seq hLP)) (e0.sub.seq (e0.grow.seq hLS)) (Ak (K:=K) (a:=LP) (b:=LS) (xs:=pvs) (ys:=ss.map λ(n:Nat)=>V.int (n:Int)) (by rw[List.length_map,hpl,hll])
   (λi σ H'=>∃ (G':Hp) (tt:Addr) (tot:List Int) (r4 r5 r6 r7 r8:Option V),σ=[some (.ref LP),some (.ref LS),some (.int cm),some (.ref tt),r4,r5,r6,r7,r8]/\j6 [] G H G' H'/\G' tt=some (.lst (tot.map V.int))/\tot=Ma.gh Ma.S4 ((ps.zip (ss.map λ(n:Nat)=>(n:Int))).take i) cm/\tot.length=7/\∀ x∈tot,B (nb+nc+i) x)
   (O0 _ t0 Ma.S4 none (l8 none none none none rfl e0 c9 rfl rfl ?_)) (λi σ H' _ h0=>by obtain⟨G',_,_,_,_,_,_,_,_,e,_⟩:=h0;exact⟨e.sub.seq (e.grow.seq hLP),e.sub.seq (e.grow.seq hLS)⟩) ?_ ?_)))
  ·intro x hx;have:x=0:=by
    simp only[Ma.S4,List.mem_cons,List.not_mem_nil,or_false,or_self]at hx;exact hx
   rw[this];exact Nat.pow_pos (by decide)
  ·rintro i x y T σ H1 hx hy ⟨G1,tt,tot,r4,r5,r6,r7,r8,rfl,e1,gt,htot,htl,hB⟩ hT;obtain⟨p,hp,hil⟩:=D0 hpp hx;obtain⟨lp,rfl,glp⟩:=hil;rw[List.getElem?_map]at hy;obtain⟨n,hn,rfl⟩:∃ n,ss[i]?=some n/\y=V.int (n:Int):=by
    cases q:ss[i]? with
    |none=>rw[q]at hy;cases hy
    |some y=>rw[q]at hy;exact a0 y rfl ((Option.some.inj hy).symm)
   have hi:i<ps.length:=(List.getElem?_eq_some_iff.mp hp).1;obtain⟨hp7,hpB⟩:=hps p (List.mem_of_getElem? hp);have hn0:=hss n (List.mem_of_getElem? hn);have e2:=e1.lay hT (o:=.tup [.ref lp,.int (n:Int)]);have g12:=Z2 (o:=.tup [.ref lp,.int (n:Int)]) (e1.sub.free hT);generalize hG2:i8 G1 T (.tup [.ref lp,.int (n:Int)])=G2 at e2 g12;have w1:Int.fdiv cm (n:Int)=cm/(n:Int):=ao (by omega);have hfac:B nc (cm/(n:Int)):=B.div hcm;have s2:C9 K (i8 H1 T (.tup [.ref lp,.int (n:Int)])) tt (tot.map V.int):=.of (e2.sub _ _ (g12 _ _ gt));have s3:C9 K (i8 H1 T (.tup [.ref lp,.int (n:Int)])) lp (p.map V.int):=.of (e2.sub _ _ (g12 _ _ (e1.grow _ _ glp)));refine i3 T _ rfl (.of c9) rfl (J0 _ _ rfl (h9 _ _ rfl rfl (a0 _ rfl (a0 _ rfl (i3 _ _ rfl rfl (by omega) ?_)))));refine a0 _ rfl (a0 _ rfl (q0 tt lp _ _ rfl s2 s3 (λD hD=>xC (K:=K) (a:=tt) (b:=lp) (xs:=tot.map V.int) (ys:=p.map V.int) (by rw[List.length_map,List.length_map,htl,hp7])
    (λj Hc=>∃ G3,j6 [] G2 (i8 H1 T (.tup [.ref lp,.int (n:Int)])) G3 Hc/\M7 G3 Hc D (.lst (((List.zipWith (λt m=>t+m*(cm/(n:Int))) tot p).take j).map V.int)))
    (a0 G2 ((j6.refl e2.sub).lend hD) ⟨c9,e2.sub.free hD⟩) (λj Hc _ h0=>by obtain⟨G3,e,_⟩:=h0;exact⟨e.same.seq s2,e.same.seq s3⟩) ?_ ?_)))
   ·rintro j x y T2 Hc hx hy ⟨G3,e3,oD⟩ hT2;obtain⟨t,ht,rfl⟩:=xy hx;obtain⟨m,hm,rfl⟩:=xy hy;have e4:=e3.lay hT2 (o:=.tup [.int t,.int m]);have nD:D≠T2:=j3 oD.at_ hT2;have gD:(i8 G3 T2 (.tup [.int t,.int m])) D=none:=by rw[i0 nD];exact oD.fr
    have bm:=hpB m (List.mem_of_getElem? hm);refine i3 T2 _ rfl (.of c9) rfl (J0 _ _ rfl (i3 _ _ rfl rfl rfl (a0 _ rfl (a0 _ rfl (a0 _ rfl (i3 _ _ rfl rfl ⟨bm.mono (by omega),by rw[w1];exact hfac.mono (by omega)⟩ (h9 _ _ rfl rfl (g9 _ (by rw[i0 nD];exact oD.at_) ?_ (a0 _ (e4.put (.inl hD) gD) ?_)))))))))
    ·rw[List.length_map,List.length_take,List.length_zipWith,htl,hp7];exact Nat.lt_of_le_of_lt (Nat.min_le_right _ _) (show 7<sizeLine by decide)
    ·rw[yE ht hm,List.map_append,w1];exact⟨c9,gD⟩
   ·rintro Hc ⟨G3,e3,oD⟩;have hzl:(List.zipWith (λt m=>t+m*(cm/(n:Int))) tot p).length=7:=by rw[List.length_zipWith,htl,hp7];rfl
    rw[List.length_map,htl,List.take_of_length_le (by rw[hzl];exact Nat.le_refl _)]at oD;have e4:=e3.freeze oD.at_ hD;refine O0 _ D (List.zipWith (λt m=>t+m*(cm/(n:Int))) tot p) (some (.ref lp)) (l8 (some (.int (n:Int))) (some (.int (Int.fdiv cm (n:Int)))) r7 r8 rfl (e2.trans e4) c9 ?_ hzl ?_)
    ·have hz:(ps.zip (ss.map λ(n:Nat)=>(n:Int)))[i]?=some (p,(n:Int)):=by
      rw[List.getElem?_zip_eq_some,List.getElem?_map,hn];exact⟨hp,rfl⟩
     rw[List.take_add_one,hz];show _=Ma.gh Ma.S4 (_++[(p,(n:Int))]) cm;rw[kX,<-htot]
    ·refine uW λt ht m hm=>?_;have b1:=hB t ht;have b2:=(hpB m hm).mul hfac;exact b1.add (b2.mono (by omega))
  ·rintro σ H1 ⟨G1,tt,tot,r4,r5,r6,r7,r8,rfl,e1,gt,htot,htl,hB⟩;refine a0 _ rfl (kk _ _ _ e1 (a0 tt rfl ?_));rw[hpl,List.take_of_length_le (by rw[List.length_zip,List.length_map,hll];exact Nat.min_le_left _ _)]at htot;rw[gt,htot]
structure XH (K:W.Frag)(mg:Str->Option Value)(x:Str)(C:Addr):Prop where
 m:mg x=some (.ref C)
 c:fC K C=true
structure Ta (K:W.Frag)(mg:Str->Option Value)(CN CF CO CP CL:Addr):Prop where
 last_:GI mg "LAST_LINE" 2
 most_:GI mg "MOST_TEXT_BYTES" 65536
 len_:mg "len"=none
 nt:XC K mg "NotTaken" CN
 hN:XH K mg "NotTaken" CN
 hF:XH K mg "Fault" CF
 hO:XH K mg "NoElement" CO
 hP:XH K mg "NotThere" CP
 hL:XH K mg "TooLarge" CL
 fx:∃ fI names,mP K CF fI names/\("place" : Str)∈names/\("kind" : Str)∈names
 nFO:CF≠CO
 nFP:CF≠CP
 nFL:CF≠CL
 nNF:CN≠CF
 nNO:CN≠CO
 nNP:CN≠CP
 nNL:CN≠CL
 nOP:CO≠CP
 nOL:CO≠CL
 nPL:CP≠CL
def rj (K:W.Frag)(CN:Addr):Sp:=λvs H Q E=>∃ (G:Hp) (line:Nat) (a:V) (b:Bytes),vs=[.int (line:Int),a]/\l7 G H/\Bs K G a b/\(2<line\/65536<b.length->∀ H',E (.ref CN) none H')/\(line<=2->b.length<=65536->Q .non H)
theorem BL:i6 ["line","t"] ["line","t"] (d8 S8):=⟨rfl,rfl,rfl,by decide +kernel,rfl,by decide +kernel,by decide +kernel⟩
theorem Cv {f:Addr}{fd:FuncData}(F:F1 K "refuse_sizes" "refuse_sizes" S8 f fd)(T:Ta K mg CN CF CO CP CL):o8 prog w K mg base (A7 prog w) 1 f fd ["line","t"] (rj K CN):=by
 refine F.okX BL (λvs H Q E h=>?_) (λcdv A outer s H vs Q E hr h=>?_)
 ·obtain⟨G,line,a,b,rfl,_⟩:=h;rfl
 ·obtain⟨G,line,_,b,rfl,sm,⟨p,rfl,hb⟩,k1,k2⟩:=h;refine a0 _ (d7 (y2 (ki (m9 gw (pv 0) (fU T.last_) (n9 _)) (iP (m9 gw (A6 B0 (by rfl) T.len_ boot_len (c7 (pv 1) d4)) (fU T.most_) (n9 _)))).pt (d7 (K8 N0 rfl (by rfl) T.nt.m T.nt.c)) l6)) ?_;have hlen:(j0 b).length=b.length:=j4 b;refine a0 _ rfl (h9 _ _ rfl rfl (a0 _ rfl (B4 (λh1=>?_) (λh1=>?_))))
  ·exact eV (k1 (.inl (by omega)) _)
  refine a0 _ rfl (h9 p _ rfl (.inl (sm.seq hb)) (h9 _ _ rfl rfl (a0 _ rfl (B4 (λh2=>?_) (λh2=>?_)))))
  ·exact k1 (.inr (by rw[hlen]at h2;omega)) _
  ·exact k2 (by omega) (by rw[hlen]at h2;omega)
theorem xp:typeLookup (.type "Exception") "place"=pure none:=by rw[typeLookup_type,builtinLookup_eq_fast];kernel_rfl
theorem zQ:typeLookup (.type "Exception") "kind"=pure none:=by rw[typeLookup_type,builtinLookup_eq_fast];kernel_rfl
theorem jb {α β:Type}{R:α->β->Prop}:∀ {xs:List α}{ys:List β},Paired R xs ys->xs.length=ys.length
 |_,_,.nil=>rfl
 |_,_,.cons _ h=>congrArg (·+1) (jb h)
theorem P2 {G:Hp}{p:Addr}{o:HO}(h:G p=none):l7 G (i8 G p o):=λb u e=>by
 have ne:b≠p:=λz=>by rw[z,h]at e;cases e
 rw[i0 ne];exact e
noncomputable def R9:List Bytes->Option (List Rat)
 |[]=>some []
 |b::bs=>match Ma.z6 b with
  |none=>none
  |some q=>match R9 bs with
   |none=>none
   |some qs=>some (q::qs)
theorem kW:∀ {l:List Bytes}{qs:List Rat}{b:Bytes}{q:Rat},R9 l=some qs->Ma.z6 b=some q->R9 (l++[b])=some (qs++[q])
 |[],qs,b,q,h,hq=>by cases h;show R9 [b]=_;unfold R9;rw[hq];rfl
 |c::l,qs,b,q,h,hq=>by
  show R9 (c::(l++[b]))=_;unfold R9 at h⊢;cases hc:Ma.z6 c with
  |none=>rw[hc]at h;cases h
  |some p =>
   rw[hc]at h;cases hl:R9 l with
   |none=>rw[hl]at h;cases h
   |some ps =>
    rw[hl]at h;cases h;rw[kW hl hq];rfl
theorem dg:∀ {l:List Bytes}{b:Bytes},b∈l->Ma.z6 b=none->R9 l=none
 |c::l,b,h,hq=>by
  unfold R9;rcases List.mem_cons.mp h with e|e
  ·subst e;rw[hq]
  ·cases hc:Ma.z6 c with
   |none=>rfl
   |some p=>rw[dg e hq]
theorem uF {b:Bytes}{q:Rat}(h:Ma.z6 b=some q):Sz 60 q:=by
 have key:∀ r:Option Rat,(match r with|some q=>if Ln.Num.fits q=true then some q else none|none=>none)=some q->Ln.Num.fits q=true:=by
  intro r hr;cases r with
  |none=>cases hr
  |some p =>
   have hr:(if Ln.Num.fits p=true then some p else none)=some q:=hr;by_cases hf:Ln.Num.fits p=true
   ·rw[if_pos hf]at hr;cases hr;exact hf
   ·rw[if_neg hf]at hr;cases hr
 unfold Ma.z6 at h;by_cases hl:512<b.length
 ·rw[if_pos hl]at h;cases h
 ·rw[if_neg hl]at h;have hf:=key _ h;unfold Ln.Num.fits at hf;simp only[Bool.and_eq_true,decide_eq_true_eq]at hf;refine⟨?_,?_⟩
  ·exact Nat.lt_of_lt_of_le hf.1 (by decide)
  ·exact Nat.lt_of_lt_of_le hf.2 (by decide)
theorem sX:∀ {l:List Bytes}{qs:List Rat},R9 l=some qs->qs.length=l.length/\∀ q∈qs,Sz 60 q
 |[],qs,h=>by cases h;exact⟨rfl,λq z=>nomatch z⟩
 |b::l,qs,h=>by
  unfold R9 at h;cases hb:Ma.z6 b with
  |none=>rw[hb]at h;cases h
  |some p =>
   rw[hb]at h;cases hl:R9 l with
   |none=>rw[hl]at h;cases h
   |some ps =>
    rw[hl]at h;cases h;obtain⟨e1,e2⟩:=sX hl;refine⟨by rw[List.length_cons,List.length_cons,e1],λq hq=>?_⟩;rcases List.mem_cons.mp hq with z|z
    ·rw[z];exact uF hb
    ·exact e2 q z
noncomputable def gP (line:Nat)(b:Bytes)(texts:List Bytes)(rk:List C0->List Rat->Except Bool (List (Int×Int))):List Int :=
 if 2<line\/65536<b.length then[-1]else
 match R9 texts with
 |none=>[-1]
 |some qs=>match Ln.Text.read b with
  |.error e=>[-3,(e.2:Int),(e.1:Int)]
  |.ok s=>match rk (Ma.bV s line) qs with
   |.error true=>[-2]
   |.error false=>[-5]
   |.ok prs=>if(Ma.w9 prs).all tellable then Ma.M3 (Ma.w9 prs)else[-6]
def EY (K:W.Frag)(CT CO CP:Addr)(n:Nat)(rk:List C0->List Rat->Except Bool (List (Int×Int))):Sp:=λvs H Q E=>∃ (G:Hp) (a r:V) (ts:List C0) (qs:List Rat),vs=[a,r]/\l7 G H/\jH K CT G a ts/\Ls K (Fr K) G r qs/\ts.length<=64/\qs.length=n/\(∀ q∈qs,Sz 60 q) /\
 match rk ts qs with
 |.ok prs=>∀ v G' H',j6 [] G H G' H'->qO K G' v prs->Q v H'
 |.error true=>∀ H',E (.ref CO) none H'
 |.error false=>∀ H',E (.ref CP) none H'
def AU (w:World)(K:W.Frag)(mg:Str->Option Value)(base:Heap)(k:Nat)(CT CO CP:Addr):Sp:=λvs H Q E=>∃ (G:Hp) (line:Nat) (a x:V) (b:Bytes) (texts:List Bytes) (f:Addr) (Φ:Hp->Prop) (rk:List C0->List Rat->Except Bool (List (Int×Int))) (out:List Int),vs=[.int (line:Int),a,x,.ref f]/\l7 G H/\Bs K G a b/\Ls K (Bs K) G x texts/\texts.length<=10 /\
 EE prog w K mg base k f Φ (EY K CT CO CP texts.length rk)/\(∀ G' H',j6 [] G H G' H'->Φ H')/\(∀ ts qs prs,rk ts qs=.ok prs->(∀ pr∈prs,pr.2≠0)/\prs.length<=100)/\((∀ s,line<=2->b.length<=65536->R9 texts≠none->Ln.Text.read b=.ok s->Ma.cI s.glasses)->gP line b texts rk=out)/\∀ v H',(∃ l,v=.ref l/\H' l=some (.lst (out.map V.int)))->Q v H'
theorem iK:i6 ["line","t","texts","reckon","numbers","stations","fault","text"] ["line","t","texts","reckon"] (d8 aY):=⟨rfl,rfl,rfl,by decide +kernel,rfl,by decide +kernel,by decide +kernel⟩
theorem DF {f:Addr}{fd:FuncData}(F:F1 K "answered" "answered" aY f fd)(T:Ta K mg CN CF CO CP CL)(Ds:B8 prog w K mg base 1 "refuse_sizes" ["line","t"] (rj K CN))(Dh:B8 prog w K mg base 5 "handed_over" ["text"] (nz K CN))
  (Dr:B8 prog w K mg base 14 "read_system" ["text"] (AR K CS CE CF)) (Dt:B8 prog w K mg base 6 "stations_of" ["system","line"] (iB K CS CE CT)) (Dl:B8 prog w K mg base 3 "told" ["pairs"] (wa K CL)) :
  o8 prog w K mg base (A7 prog w) 15 f fd ["line","t","texts","reckon"] (AU w K mg base 14 CT CO CP):=by
 refine F.okX iK (λvs H Q E h=>?_) (λcdv A outer s H vs Q E hr h=>?_)
 ·obtain⟨G,line,a,x,b,texts,f,Φ,rk,out,rfl,_⟩:=h;rfl
 ·obtain⟨G,line,a,x,b,texts,fr,Φ,rk,out,rfl,sm,hb,hx,hn,C,hΦ,hrk,hout,kk0⟩:=h;have kk:(∀ s,line<=2->b.length<=65536->R9 texts≠none->Ln.Text.read b=.ok s->Ma.cI s.glasses)->∀ v H',(∃ l,v=.ref l/\H' l=some (.lst ((gP line b texts rk).map V.int)))->Q v H':=λhg v H' h=>kk0 v H' (by rw[<-hout hg];exact h);obtain⟨fI,names,xc,m1,m2⟩:=T.fx;have hr1:=hr.mono (show 1<=14 by decide);have hr3:=hr.mono (show 3<=14 by decide);have hr4:=hr.mono (show 5<=14 by decide);have hr6:=hr.mono (show 6<=14 by decide);refine a0 _ (d7 (Cb rfl rfl rfl (bg rfl (by rfl) T.hN.m T.hN.c (Ai (ts:=λx od=>tI (ER (J8 (Ha (rU λi=>.int (-i)) (tC (.int 3))) (J8 (vM x od (J6 6) "place") (J8 (vM x od (J6 6) "kind") fH))))) (i:=6) rfl rfl iK.nd rfl rfl (by rfl) T.hF.m T.hF.c
    (bg rfl (by rfl) T.hO.m T.hO.c (bg rfl (by rfl) T.hP.m T.hP.c (bg rfl (by rfl) T.hL.m T.hL.c xX (λx=>d7 (j1 (C5 (c7 (eM aA g8) d4)))))
     (λx=>d7 (j1 (C5 (c7 (eM aA g8) d4))))) (λx=>d7 (j1 (C5 (c7 (eM aA g8) d4)))))
    (λx oe vs h1 h2=>d7 (j1 (C5 (c7 (eM aA g8) (c7 (rP (x:=x) (oe:=oe) (List.mem_append_left _ (List.mem_singleton.mpr rfl)) h1 h2 xc m1 xp (pv 6) rfl) (c7 (rP (x:=x) (oe:=oe) (List.mem_append_left _ (List.mem_singleton.mpr rfl)) h1 h2 xc m2 zQ (pv 6) rfl) d4)))))))
    (λx=>d7 (j1 (C5 (c7 (eM aA g8) d4)))))
   (λxe pn E' ht hp=>c8 (j8 (d9 Ds hr1 ht.pass (c7 (pv 0) (c7 (pv 1) d4))))
    (c8 (cN (wi:=sx K (J6 2)) (i:=4) (own:=[("text",7)]) ht rfl rfl rfl rfl iK.nd rfl rfl (aC rfl rfl rfl rfl) (K9 (pv 2)) (N7 (show jG ["line","t","texts","reckon","numbers","stations","fault","text"] (d8 aY) _ _=true by decide +kernel)) (λ_ _ _ _ _=>y9 (i:=7) iK.nd rfl (Or.inl rfl)) (λ_ _ _ _ _=>R4) (λ_ _ _ _ _ xe' pn' hp'=>d9 Dh hr4 hp' (c7 (pv 7) d4)))
    (c8 (i7 (i:=5) iK.nd rfl (Or.inl rfl) (d9 Dt hr6 ht.pass (c7 (d9 Dr hr ht.pass (c7 (pv 1) d4)) (c7 (pv 0) d4))))
    (d7 (j1 (d9 Dl hr3 ht.pass (c7 (show PE _ _ (vS prog w K mg base 14 3 E' (J8 (J6 5) (J8 (J6 4) fH))) from wR (i:=3) rfl (Or.inl rfl) hr ht.pass (c7 (pv 5) (c7 (pv 4) d4))) d4))))))))) ?_
  obtain⟨px,vx,rfl,hxs,hxp⟩:=hx;have out1:(∀ s,line<=2->b.length<=65536->R9 texts≠none->Ln.Text.read b=.ok s->Ma.cI s.glasses)->∀ {l:Addr}{H':Hp}{n:Int},gP line b texts rk=[n]->Q (.ref l) (i8 H' l (.lst [.int n])):=λhg {l H' n} e=>kk hg _ _ (a0 l rfl (by rw[c9,e];rfl));refine a0 _ rfl (a0 _ rfl (j5 G line a b rfl sm hb (λhbad H'=>?_) (λh1 h2=>?_)))
  ·refine g9 CN rfl T.hN.c ?_;rw[if_pos rfl];intro σ;refine g9 _ rfl (by show 1<=sizeLine;decide) (λl hl=>out1 (λs h1 h2 _ _=>absurd hbad (by omega)) ?_);unfold gP;rw[if_pos hbad]
  have hne:¬ (2<line\/65536<b.length):=by omega
  refine a0 _ rfl (g9 px rfl (l9 _ (sm.seq hxs)) (λD hD=>eU (K:=K) (a:=px) (xs:=vx) (λi Hc=>∃ (G1:Hp) (qs:List Rat) (ys:List V),j6 [] G H G1 Hc/\M7 G1 Hc D (.lst ys)/\Paired (Fr K G1) ys qs/\ys.length=i/\R9 (texts.take i)=some qs)
   (z8 G ([]) ([]) ((j6.refl sm).lend hD) ⟨c9,sm.free hD⟩ .nil rfl rfl) (λi Hc _ h0=>by obtain⟨G1,_,_,e,_⟩:=h0;exact e.sub.seq (e.grow.seq hxs)) ?_ ?_))
  ·rintro i v Hc hv ⟨G1,qs,ys,e1,oD,hp,hl,hq⟩;obtain⟨c,hc,hcb⟩:=D0 hxp hv;refine⟨rfl,a0 _ rfl (m8 G1 v c rfl e1.sub (Bs.mono _ _ _ _ e1.grow hcb) ?_)⟩;unfold AH;cases z:Ma.z6 c with
   |none =>
    intro H';refine g9 CN rfl T.hN.c ?_;rw[if_pos rfl];intro σ;refine g9 _ rfl (by show 1<=sizeLine;decide) (λl hl=>out1 (λs _ _ h _=>absurd (dg (List.mem_of_getElem? hc) z) h) ?_);unfold gP;rw[if_neg hne,dg (List.mem_of_getElem? hc) z]
   |some q =>
    intro v' G2 H2 e2 hf;have oD2:=oD.ext e2 (by simp);have hi:i<texts.length:=(List.getElem?_eq_some_iff.mp hc).1;refine g9 ys oD2.at_ ?_ (z8 G2 (qs++[q]) (ys++[v']) ((e1.tr0 e2).put (.inl hD) oD2.fr) ⟨c9,oD2.fr⟩ (Paired.snoc (Paired.map' (λ_ _ z=>Fr.mono _ _ _ _ e2.grow z) hp) hf) (by rw[List.length_append,hl];rfl) ?_)
    ·rw[hl];exact Nat.lt_of_lt_of_le (Nat.lt_of_lt_of_le hi hn) (by decide)
    ·rw[List.take_add_one,hc];exact kW hq z
  ·rintro Hc ⟨G1,qs,ys,e1,oD,hp,hl,hq⟩;have hvl:vx.length=texts.length:=jb hxp;rw[hvl,List.take_length]at hq;have hDn:H D=none:=hD;have e2:=e1.freeze oD.at_ hDn;generalize hG2:i8 G1 D (.lst ys)=G2 at e2;have gD:G2 D=some (.lst ys):=by rw[<-hG2];exact c9
   have g12:l7 G1 G2:=by rw[<-hG2];exact P2 oD.fr
   obtain⟨hql,hqs⟩:=sX hq;have a1:∀ {X:List Int},(match R9 texts with|none=>[-1]|some qs=>match Ln.Text.read b with|.error e=>[-3,(e.2:Int),(e.1:Int)]|.ok s=>match rk (Ma.bV s line) qs with|.error true=>[-2]|.error false=>[-5]|.ok prs=>if(Ma.w9 prs).all tellable then Ma.M3 (Ma.w9 prs)else[-6])=X->gP line b texts rk=X:=λ{X} h=>by
    unfold gP;rw[if_neg hne];exact h
   rw[hq]at a1;refine a0 _ rfl (m8 G2 a b rfl e2.sub (Bs.mono _ _ _ _ e2.grow hb) ?_);unfold EA;cases hrd:Ln.Text.read b with
   |error er =>
    intro H' d hd;refine g9 CF rfl T.hF.c ?_;rw[if_neg (λz=>T.nNF (Value.ref.inj z).symm),if_pos rfl];intro σ x hσ;refine a0 _ rfl (g9 _ hσ rfl (m8 d _ _ rfl hd rfl (g9 _ hσ rfl (z8 d _ _ rfl hd rfl (by show 3<=sizeLine;decide) (λl hl=>kk (λs _ _ _ h=>by rw[hrd]at h;cases h) _ _ (a0 l rfl ?_))))));rw[c9,a1 (by rw[hrd])];rfl
   |ok sy =>
    intro v3 G3 H3 e3 hsys;have hg:∀ s,line<=2->b.length<=65536->R9 texts≠none->Ln.Text.read b=.ok s->Ma.cI s.glasses:=λs _ _ _ h=>by rw[hrd]at h;cases h;exact hsys.ok
    refine a0 _ rfl (j5 G3 v3 sy line rfl e3.sub hsys (by omega) (λv4 G4 H4 e4 hst=>?_));have e24:=e3.trans e4;have e04:j6 [] G H G4 H4:=e2.trans e24;refine bP fr Φ _ rfl C (a0 _ rfl (g9 _ rfl (hΦ _ _ e04) (p9 G4 v4 (.ref D) (Ma.bV sy line) qs ⟨rfl,e4.sub,hst,(h9 D ys rfl (.of (e24.grow _ _ gD)) (Paired.map' (λ_ _ z=>Fr.mono _ _ _ _ (g12.trans e24.grow) z) hp)),?_,hql,hqs,?_⟩)))
    ·show(Ma.A2 sy line 0 sy.count).length<=64;unfold Ma.A2;rw[List.length_map,List.length_range'];exact hsys.le
    ·cases hk:rk (Ma.bV sy line) qs with
     |error eb =>
      cases eb with
      |true =>
       intro H';refine g9 CO rfl T.hO.c ?_;rw[if_neg (λz=>T.nNO (Value.ref.inj z).symm),if_neg (λz=>T.nFO (Value.ref.inj z).symm),if_pos rfl];intro σ;refine g9 _ rfl (by show 1<=sizeLine;decide) (λl hl=>out1 hg (a1 ?_));rw[hrd];show(match rk (Ma.bV sy line) qs with|.error true=>[-2]|.error false=>[-5]|.ok prs=>if(Ma.w9 prs).all tellable then Ma.M3 (Ma.w9 prs)else[-6])=_;rw[hk]
      |false =>
       intro H';refine g9 CP rfl T.hP.c ?_;rw[if_neg (λz=>T.nNP (Value.ref.inj z).symm),if_neg (λz=>T.nFP (Value.ref.inj z).symm),if_neg (λz=>T.nOP (Value.ref.inj z).symm),if_pos rfl];intro σ;refine g9 _ rfl (by show 1<=sizeLine;decide) (λl hl=>out1 hg (a1 ?_));rw[hrd];show(match rk (Ma.bV sy line) qs with|.error true=>[-2]|.error false=>[-5]|.ok prs=>if(Ma.w9 prs).all tellable then Ma.M3 (Ma.w9 prs)else[-6])=_;rw[hk]
     |ok prs =>
      intro v5 G5 H5 e5 hpr;obtain⟨z1,z2⟩:=hrk _ _ _ hk;refine I0 G5 v5 prs ⟨rfl,e5.sub,hpr,z1,z2,λha H'=>?_,λha v6 G6 H6 e6 hv6=>?_⟩
      ·refine g9 CL rfl T.hL.c ?_;rw[if_neg (λz=>T.nNL (Value.ref.inj z).symm),if_neg (λz=>T.nFL (Value.ref.inj z).symm),if_neg (λz=>T.nOL (Value.ref.inj z).symm),if_neg (λz=>T.nPL (Value.ref.inj z).symm),if_pos rfl];intro σ;refine g9 _ rfl (by show 1<=sizeLine;decide) (λl hl=>out1 hg (a1 ?_));rw[hrd];show(match rk (Ma.bV sy line) qs with|.error true=>[-2]|.error false=>[-5]|.ok prs=>if(Ma.w9 prs).all tellable then Ma.M3 (Ma.w9 prs)else[-6])=_;rw[hk];show(if(Ma.w9 prs).all tellable then Ma.M3 (Ma.w9 prs)else[-6])=_;rw[if_neg (by rw[ha];decide)]
      ·obtain⟨l,rfl,hl⟩:=hv6;refine kk hg _ _ (a0 l rfl ?_);rw[e6.sub _ _ hl,a1];rw[hrd];show(match rk (Ma.bV sy line) qs with|.error true=>[-2]|.error false=>[-5]|.ok prs=>if(Ma.w9 prs).all tellable then Ma.M3 (Ma.w9 prs)else[-6])=_;rw[hk];show(if(Ma.w9 prs).all tellable then Ma.M3 (Ma.w9 prs)else[-6])=_;rw[if_pos ha]
theorem cw:∀ l:List Int,Paired (λa b=>a=V.int b) (l.map V.int) l
 |[]=>.nil
 |_::l=>.cons rfl (cw l)
def AS (K:W.Frag):Sp:=λvs H Q _=>∃ (G:Hp) (a:V) (l:List Int) (N s:Int) (n m:Nat),vs=[a,.int N,.int s]/\l7 G H/\IL G a l/\B n N/\B m s/\4*n+m<=60000000/\∀ v G' H',j6 [] G H G' H'->qO K G' v (l.zip (Ma.R8 N s))->Q v H'
theorem qc:i6 ["numbers","lengths","scale","second","bottoms"] ["numbers","lengths","scale"] (d8 dI):=⟨rfl,rfl,rfl,by decide +kernel,rfl,by decide +kernel,by decide +kernel⟩
theorem DD {f:Addr}{fd:FuncData}(F:F1 K "as_pairs" "as_pairs" dI f fd)(Z:Ey K mg CP):o8 prog w K mg base (A7 prog w) 1 f fd ["numbers","lengths","scale"] (AS K):=by
 refine F.okX qc (λvs H Q E h=>?_) (λcdv A outer s H vs Q E hr h=>?_)
 ·obtain⟨G,a,l,N,s,n,m,rfl,_⟩:=h;rfl
 ·obtain⟨G,_,l,N,sc,n,m,rfl,sm,⟨la,rfl,gl⟩,bN,bs,hbd,kk⟩:=h;refine a0 _ (c8 (i7 (i:=3) qc.nd rfl (Or.inl rfl) (i5 i4 (pv 1) (pv 1)))
   (c8 (i7 (i:=4) qc.nd rfl (Or.inl rfl) (i5 lV (i5 wX (C5 (c7 (i5 i4 (i5 i4 (pv 3) (pv 3)) (pv 2)) d4)) g8) (i5 wX (C5 (c7 (i5 i4 (pv 3) (pv 2)) d4)) g8)))
   (d7 (j1 (iX rfl (by rfl) Z.list_ (by rfl) Z.zip_ (c7 (pv 0) (c7 (pv 4) d4))))))) ?_
  have b2:=bN.mul bN;have b4:=b2.mul b2;refine a0 _ rfl (a0 _ rfl (i3 _ _ rfl rfl ⟨bN.mono (by omega),bN.mono (by omega)⟩ ?_));refine a0 _ rfl (a0 _ rfl (i3 _ _ rfl rfl ⟨b2.mono (by omega),b2.mono (by omega)⟩ (a0 _ rfl (J5 _ _ rfl rfl ⟨b4.mono (by omega),bs.mono (by omega)⟩ (by show 1<=sizeLine;decide) (λp1 h1=>?_)))));have e1:j6 [] G H _ _:=(j6.refl sm).lay h1 (o:=.lst [.int (N*N*(N*N)*sc)]);generalize hx1:(N*N*(N*N)*sc:Int)=x1 at e1;generalize hx2:(N*N*sc:Int)=x2;refine I0 p1 5 _ ⟨rfl,rfl,c9,(by decide),(by decide),(by show 1*5<=sizeLine;decide),λp2 h2=>?_⟩;have h2':i8 H p1 (.lst [.int x1]) p2=none:=by rw[<-hx1];exact h2
  have e2:=e1.lay h2' (o:=.lst [.int x1,.int x1,.int x1,.int x1,.int x1]);refine a0 _ rfl (a0 _ rfl (J5 _ _ rfl rfl ⟨b2.mono (by omega),bs.mono (by omega)⟩ (by show 1<=sizeLine;decide) (λp3 h3=>?_)));have h3':i8 (i8 H p1 (.lst [.int x1])) p2 (.lst [.int x1,.int x1,.int x1,.int x1,.int x1]) p3=none:=by rw[<-hx1];exact h3
  have e3:=e2.lay h3' (o:=.lst [.int x2]);refine I0 p3 2 _ ⟨rfl,rfl,c9,(by decide),(by decide),(by show 1*2<=sizeLine;decide),λp4 h4=>?_⟩;have h4':i8 (i8 (i8 H p1 (.lst [.int x1])) p2 (.lst [.int x1,.int x1,.int x1,.int x1,.int x1])) p3 (.lst [.int x2]) p4=none:=by rw[<-hx1,<-hx2];exact h4
  have e4:=e3.lay h4' (o:=.lst [.int x2,.int x2]);have n23:p2≠p3:=j3 (c9 (H:=i8 H p1 (.lst [.int x1])) (a:=p2)) h3';have n24:p2≠p4:=j3 (o:=.lst [.int x1,.int x1,.int x1,.int x1,.int x1]) (by rw[i0 n23,c9]) h4';have q2:i8 (i8 (i8 (i8 H p1 (.lst [.int x1])) p2 (.lst [.int x1,.int x1,.int x1,.int x1,.int x1])) p3 (.lst [.int x2])) p4 (.lst [.int x2,.int x2]) p2=some (.lst [.int x1,.int x1,.int x1,.int x1,.int x1]):=by
   rw[i0 n24,i0 n23,c9]
  refine l8 p2 p4 ([.int x1,.int x1,.int x1,.int x1,.int x1]) ([.int x2,.int x2]) rfl rfl (by subst hx1 hx2;exact q2) (by subst hx1 hx2;exact c9) (by show 7<=sizeLine;decide) (λp5 h5=>?_);have h5':i8 (i8 (i8 (i8 H p1 (.lst [.int x1])) p2 (.lst [.int x1,.int x1,.int x1,.int x1,.int x1])) p3 (.lst [.int x2])) p4 (.lst [.int x2,.int x2]) p5=none:=by rw[<-hx1,<-hx2];exact h5
  have e5:=e4.lay h5' (o:=.lst [.int x1,.int x1,.int x1,.int x1,.int x1,.int x2,.int x2]);have ha:C9 K (i8 (i8 (i8 (i8 (i8 H p1 (.lst [.int x1])) p2 (.lst [.int x1,.int x1,.int x1,.int x1,.int x1])) p3 (.lst [.int x2])) p4 (.lst [.int x2,.int x2])) p5 (.lst [.int x1,.int x1,.int x1,.int x1,.int x1,.int x2,.int x2])) la (l.map V.int):=.of (e5.sub _ _ (e5.grow _ _ gl));have hbt:Ma.R8 N sc=[x1,x1,x1,x1,x1,x2,x2]:=by unfold Ma.R8;rw[hx1,hx2]
  rw[hbt]at kk;subst hx1 hx2;refine a0 _ rfl (a0 _ rfl (q0 la p5 _ _ rfl ha (.of c9) (λl' hl'=>qU e5.sub hl' λG6 H6 Ts e6 hg hpT=>?_)));refine kk _ _ _ (e5.trans e6) (h9 l' _ rfl (.of hg) (dM ?_));have q3:Paired (λ(a:V×V) (b:Int×Int)=>a=(.int b.1,.int b.2)) ((l.map V.int).zip [.int (N*N*(N*N)*sc),.int (N*N*(N*N)*sc),.int (N*N*(N*N)*sc),.int (N*N*(N*N)*sc),.int (N*N*(N*N)*sc),.int (N*N*sc),.int (N*N*sc)]) (l.zip [N*N*(N*N)*sc,N*N*(N*N)*sc,N*N*(N*N)*sc,N*N*(N*N)*sc,N*N*(N*N)*sc,N*N*sc,N*N*sc]) :=
   ja (R:=λa b=>a=V.int b) (S:=λa b=>a=V.int b) (λa b c d h1 h2=>by rw[h1,h2]) (cw l) (cw [N*N*(N*N)*sc,N*N*(N*N)*sc,N*N*(N*N)*sc,N*N*(N*N)*sc,N*N*(N*N)*sc,N*N*sc,N*N*sc])
  exact gv (λT p b h1 h2=>⟨T,rfl,.of (by rw[h1,h2])⟩) hpT q3
theorem wu {t:C0}{y a z b:Int}{n:Nat}(ok:K5 t)(by_:B n y)(ba:B n a)(bz:B n z)(bb:B n b):∀ x∈Ma.cM t y a z b,B (4*n+2010) x:=by
 intro x hx;have bsq:=nW ok.square ok;have bbd:=nW ok.bend ok;have bcn:=nW ok.conic ok;have bcl:=nW ok.colour ok;have bcny:=bcn.mul by_;have bcly:=bcl.mul by_;have b2:=bbd.mul by_;have b3:=bsq.mul ba;have b4:=(b2.mono (show _<=1*n+2001 by omega)).sub (b3.mono (show _<=1*n+2001 by omega));have b5:=by_.mul b4;have b6:=ba.mul bz;have b7:=bb.mul by_;have b8:=(b6.mono (show _<=2*n+0 by omega)).sub (b7.mono (show _<=2*n+0 by omega));have b9:=ba.mul ba;have b10:=b9.mul b5;have b11:=bcny.mul by_;have b12:=by_.mul by_;have b13:=b11.mul b12;have b14:=(b10.mono (show _<=4*n+2002 by omega)).add (b13.mono (show _<=4*n+2002 by omega));have b15:=ba.mul bb;have b16:=b15.mul b5;have b17:=by_.mul bz;have b18:=b11.mul b17;have b19:=(b16.mono (show _<=4*n+2002 by omega)).add (b18.mono (show _<=4*n+2002 by omega));have b20:=bb.mul bb;have b21:=b20.mul b5;have b22:=bz.mul bz;have b23:=b11.mul b22;have b24:=(b21.mono (show _<=4*n+2002 by omega)).add (b23.mono (show _<=4*n+2002 by omega));have b25:=bbd.neg.mul b8;have b26:=b25.mul b8;have b27:=bbd.mul bz;have k28:B 2 2:=by unfold Ma.B;decide
 have b29:=k28.mul bb;have b30:=b29.mul by_;have b31:=(b30.mono (show _<=2*n+2 by omega)).sub (b6.mono (show _<=2*n+2 by omega));have b32:=b27.mul b31;have b33:=bsq.mul by_;have b34:=b33.mul b20;have b35:=(b32.mono (show _<=3*n+2004 by omega)).sub (b34.mono (show _<=3*n+2004 by omega));have b36:=bb.mul b35;have b37:=bcny.mul bz;have b38:=b37.mul b22;have b39:=(b36.mono (show _<=4*n+2005 by omega)).add (b38.mono (show _<=4*n+2005 by omega));have b40:=ba.mul bcly;have b41:=bb.mul bcly;simp only[Ma.cM,List.mem_cons,List.not_mem_nil,or_false]at hx;rcases hx with rfl|rfl|rfl|rfl|rfl|rfl|rfl
 ·exact b14.mono (by omega)
 ·exact b19.mono (by omega)
 ·exact b24.mono (by omega)
 ·exact b26.mono (by omega)
 ·exact b39.mono (by omega)
 ·exact b40.mono (by omega)
 ·exact b41.mono (by omega)
theorem wV {t:C0}{m c:Int×Int}{l:List Int}{n:Nat}(ok:K5 t)(h:Ma.P4 t m c=some l)(b1:B n m.1)(b2:B n m.2)(b3:B n c.1)(b4:B n c.2):l.length=7/\∀ x∈l,B (4*n+2010) x:=by
 unfold Ma.P4 at h;by_cases h1:t.stop=true
 ·rw[if_pos h1]at h;cases h;refine⟨rfl,λx hx=>?_⟩;have:x=0:=by simpa using hx
  rw[this];exact Nat.pow_pos (by decide)
 ·rw[if_neg h1]at h;by_cases h2:m.2=0
  ·rw[if_pos h2]at h;cases h
  ·rw[if_neg h2]at h;cases h;exact⟨rfl,wu ok b1 b2 b3 b4⟩
theorem U3 (s:C0)(l:List C0)(mc:(Int×Int)×(Int×Int))(r:List ((Int×Int)×(Int×Int))):Ma.D3 (s::l) (mc::r)=(Ma.P4 s mc.1 mc.2).bind λp=>(Ma.D3 l r).map λps=>p::ps:=by
 obtain⟨m,c⟩:=mc;rw[Ma.D3];cases Ma.P4 s m c<;>rfl
theorem fV:Ma.D3 [] []=some []:=by rw[Ma.D3];intro _ _ _ _ _ h;cases h
theorem nQ:∀ (l:List C0) (r:List ((Int×Int)×(Int×Int))) (ps:List (List Int)) (t:C0) (mc:(Int×Int)×(Int×Int)) (p:List Int),l.length=r.length->Ma.D3 l r=some ps->Ma.P4 t mc.1 mc.2=some p->Ma.D3 (l++[t]) (r++[mc])=some (ps++[p]):=by
 intro l
 induction l with
 |nil =>
  intro r ps t mc p hl h hp;cases r with
  |cons a r=>cases hl
  |nil =>
   rw[fV]at h;cases h;rw[List.nil_append,List.nil_append,U3,hp,fV];rfl
 |cons s l ih =>
  intro r ps t mc p hl h hp;cases r with
  |nil=>cases hl
  |cons m r =>
   rw[U3]at h;rw[List.cons_append,List.cons_append,U3];cases q:Ma.P4 s m.1 m.2 with
   |none=>rw[q]at h;cases h
   |some p0 =>
    rw[q]at h;cases q2:Ma.D3 l r with
    |none=>rw[q2]at h;cases h
    |some ps0 =>
     rw[q2]at h;cases h;rw[ih r ps0 t mc p (Nat.succ.inj hl) q2 hp];rfl
theorem nU:∀ (l:List C0) (r:List ((Int×Int)×(Int×Int))) (i:Nat) (t:C0) (mc:(Int×Int)×(Int×Int)),l[i]?=some t->r[i]?=some mc->Ma.P4 t mc.1 mc.2=none->Ma.D3 l r=none:=by
 intro l
 induction l with
 |nil=>intro r i t mc h1;simp at h1
 |cons s l ih =>
  intro r i t mc h1 h2 hp;cases r with
  |nil=>simp at h2
  |cons m r =>
   rw[U3];cases i with
   |zero =>
    rw[List.getElem?_cons_zero]at h1 h2;cases h1;cases h2;rw[hp];rfl
   |succ i =>
    rw[List.getElem?_cons_succ]at h1 h2;rw[ih r i t mc h1 h2 hp];cases Ma.P4 s m.1 m.2<;>rfl
theorem cX:∀ (l:List C0) (n:Nat) (h a:Int),(∀ t∈l,K5 t)->B n h->B n a->∀ pr∈Ma.A9 l h a,B (n+263*l.length) pr.1/\B (n+263*l.length) pr.2
 |[],_,_,_,_,_,_,pr,hpr=>nomatch hpr
 |t::l,n,h,a,ok,hh,ha,pr,hpr=>by
  obtain⟨b1,b2,b3⟩:=Ma.xx (ok t List.mem_cons_self) hh ha;have hpr:pr∈(h+t.walk.num*a/t.walk.den,a+t.before.num*(h+t.walk.num*a/t.walk.den)/t.before.den)::Ma.A9 l (h+t.walk.num*a/t.walk.den) (a+t.before.num*(h+t.walk.num*a/t.walk.den)/t.before.den-t.behind.num*(h+t.walk.num*a/t.walk.den)/t.behind.den):=hpr;rcases List.mem_cons.mp hpr with e|e
  ·rw[e,List.length_cons];exact⟨b1.mono (by omega),b2.mono (by omega)⟩
  ·have:=cX l (n+263) _ _ (λz hz=>ok z (List.mem_cons_of_mem _ hz)) (b1.mono (by omega)) b3 pr e;refine⟨this.1.mono ?_,this.2.mono ?_⟩<;>(rw[List.length_cons];omega)
theorem rW {ts:List C0}{N:Int}{y v z u:Rat}{n:Nat}(ok:∀ t∈ts,K5 t)(hs:∀ q∈[y,v,z,u],Sz 1000 q)(hN:B n N):∀ mc∈Ma.du ts N y v z u,(B (1000+n+263*ts.length) mc.1.1/\B (1000+n+263*ts.length) mc.1.2)/\B (1000+n+263*ts.length) mc.2.1/\B (1000+n+263*ts.length) mc.2.2:=by
 intro mc h;obtain⟨m,c⟩:=mc;have h:=List.of_mem_zip h;exact⟨cX ts _ _ _ ok (U4 (hs y (by simp)) hN) (U4 (hs v (by simp)) hN) m h.1,cX ts _ _ _ ok (U4 (hs z (by simp)) hN) (U4 (hs u (by simp)) hN) c h.2⟩
theorem uq (ts:List C0)(N:Int)(y v z u:Rat):(Ma.du ts N y v z u).length=ts.length:=by
 unfold Ma.du;rw[List.length_zip,V9,V9,Nat.min_self]
def nu (K:W.Frag)(CT CP:Addr):Sp:=λvs H Q E=>∃ (G:Hp) (a r:V) (ts:List C0) (y v z u:Rat),vs=[a,r]/\l7 G H/\mQ K CT G a ts/\Ls K (Fr K) G r [y,v,z,u]/\(∀ q∈[y,v,z,u],Sz 1000 q)/\ts.length<=64 /\
 match Ma.bB ts y v z u with
 |some tot=>∀ x G' H',j6 [] G H G' H'->qO K G' x (tot.zip (Ma.R8 (Ma.B6 ts [y,v,z,u]) (Ma.z7 ts)))->Q x H'
 |none=>∀ H',E (.ref CP) none H'
theorem aG:i6 ["stations","rays","lengths","meetings","parts","scales","common","station","at"] ["stations","rays"] (d8 Z3):=⟨rfl,rfl,rfl,by decide +kernel,rfl,by decide +kernel,by decide +kernel⟩
theorem Cu {f:Addr}{fd:FuncData}(F:F1 K "sums_of" "sums_of" Z3 f fd)(Z:Ey K mg CP)(Dl:B8 prog w K mg base 1 "length_scale" ["stations","rays"] (wk K CT))(Dm:B8 prog w K mg base 2 "meetings_of" ["stations","lengths","rays"] (wj K CT))(Dp:B8 prog w K mg base 5 "part_of" ["station","marginal","chief"] (pX K CT CP))
  (Ds:B8 prog w K mg base 3 "station_scale" ["station"] (wc K CT)) (Dc:B8 prog w K mg base 2 "least_multiple" ["scales"] (rm K)) (Da:B8 prog w K mg base 1 "add_parts" ["parts","scales","common"] (AV K)) (Dq:B8 prog w K mg base 1 "as_pairs" ["numbers","lengths","scale"] (AS K)) :
  o8 prog w K mg base (A7 prog w) 6 f fd ["stations","rays"] (nu K CT CP):=by
 refine F.okX aG (λvs H Q E h=>?_) (λcdv A outer s H vs Q E hr h=>?_)
 ·obtain⟨G,a,r,ts,y,v,z,u,rfl,_⟩:=h;rfl
 ·obtain⟨G,a,r,ts,y,v,z,u,rfl,sm,hts,hrs,hsz,hlen,kk⟩:=h;have hr1:=hr.mono (show 1<=5 by decide);have hr2:=hr.mono (show 2<=5 by decide);have hr3:=hr.mono (show 3<=5 by decide);refine a0 _ (c8 (i7 (i:=2) aG.nd rfl (Or.inl rfl) (d9 Dl hr1 d6 (c7 (pv 0) (c7 (pv 1) d4))))
   (c8 (i7 (i:=3) aG.nd rfl (Or.inl rfl) (d9 Dm hr2 d6 (c7 (pv 0) (c7 (pv 2) (c7 (pv 1) d4)))))
   (c8 (cN (g:=Ee K 2 (oZ (dw 7) (oZ (dw 8) Ef))) (te:=rg (pX K CT CP) [] E (J8 (J6 7) (J8 (vQ (wJ K) (J6 8) (tC (.int 0))) (J8 (vQ (wJ K) (J6 8) (tC (.int 1))) fH)))) (i:=4) (own:=[("station",7),("at",8)]) N0 rfl rfl rfl rfl aG.nd rfl rfl (aC rfl rfl rfl rfl) (qj (by rfl) Z.zip_ (c7 (pv 0) (c7 (pv 3) d4))) (N7 (show jG ["stations","rays","lengths","meetings","parts","scales","common","station","at"] (d8 Z3) _ _=true by decide +kernel)) (λ_ _ _ _ _=>lT rfl (P3 (y9 (i:=7) aG.nd rfl (Or.inl rfl)) (P3 (y9 (i:=8) aG.nd rfl (Or.inl rfl)) ic))) (λ_ _ _ _ _=>R4) (λ_ _ _ _ _ xe' pn' hp'=>d9 Dp hr hp' (c7 (pv 7) (c7 (m7 r9 (pv 8) g8 (λ_ _=>rfl)) (c7 (m7 r9 (pv 8) g8 (λ_ _=>rfl)) d4)))))
   (c8 (cN (i:=5) (own:=[("station",7)]) N0 rfl rfl rfl rfl aG.nd rfl rfl (aC rfl rfl rfl rfl) (K9 (pv 0)) (N7 (show jG ["stations","rays","lengths","meetings","parts","scales","common","station","at"] (d8 Z3) _ _=true by decide +kernel)) (λ_ _ _ _ _=>y9 (i:=7) aG.nd rfl (Or.inl rfl)) (λ_ _ _ _ _=>R4) (λ_ _ _ _ _ xe' pn' hp'=>d9 Ds hr3 hp' (c7 (pv 7) d4)))
   (c8 (i7 (i:=6) aG.nd rfl (Or.inl rfl) (d9 Dc hr2 d6 (c7 (pv 5) d4)))
   (d7 (j1 (d9 Dq hr1 d6 (c7 (d9 Da hr1 d6 (c7 (pv 4) (c7 (pv 5) (c7 (pv 6) d4)))) (c7 (pv 2) (c7 (pv 6) d4))))))))))) ?_
  have hts0:=hts;obtain⟨LS,ss,rfl,hLS,hpS⟩:=hts;have hok:=mL hpS;have hlS:ss.length=ts.length:=Paired.length hpS;have bN:B 30000 (Ma.B6 ts [y,v,z,u]):=(Ma.mf ts [y,v,z,u] 1000 hok hsz).mono (by show 2+1000*4+390*ts.length<=30000;omega);have hmB:=rW (ts:=ts) (N:=Ma.B6 ts [y,v,z,u]) hok hsz bN;have hml:=uq ts (Ma.B6 ts [y,v,z,u]) y v z u;have k0:Ma.D3 ts (Ma.du ts (Ma.B6 ts [y,v,z,u]) y v z u)=none->∀ H',E (.ref CP) none H':=λh=>by
   unfold Ma.bB at kk;rw[h]at kk;exact kk
  have k1:∀ ps,Ma.D3 ts (Ma.du ts (Ma.B6 ts [y,v,z,u]) y v z u)=some ps->∀ x G' H',j6 [] G H G' H'->qO K G' x ((Ma.gh Ma.S4 (ps.zip (ts.map λt=>((Ma.y8 t:Nat):Int))) (Ma.z7 ts)).zip (Ma.R8 (Ma.B6 ts [y,v,z,u]) (Ma.z7 ts)))->Q x H':=λps h=>by
   unfold Ma.bB at kk;rw[h]at kk;exact kk
  clear kk;refine a0 _ rfl (a0 _ rfl (l9 G (M0 (.ref LS) r ts ([y,v,z,u]) 1000 rfl sm hts0 hrs hsz (by show 1000*4+390*(ts.length+1)+10<=60000000;omega) ?_)));generalize hN:Ma.B6 ts [y,v,z,u]=N at bN hmB hml k0 k1⊢;refine a0 _ rfl (a0 _ rfl (a0 _ rfl (p9 G (.ref LS) r N ts (p9 y v z u 30000 ⟨rfl,sm,hts0,hrs,hsz,bN,(by omega),(by omega),λx1 G1 H1 e1 hm=>?_⟩))));obtain⟨LM,ms,rfl,gM,hpM⟩:=hm;have hmsl:ms.length=ts.length:=by rw[Paired.length hpM,hml]
  generalize hM:Ma.du ts N y v z u=M at hmB hml k0 k1 hpM;have sLS:C9 K H1 LS ss:=e1.sub.seq (e1.grow.seq hLS);have sLM:C9 K H1 LM ms:=.of (e1.sub _ _ gM);have hpS1:Paired (dY K CT G1) ss ts:=Paired.map' (λ_ _ h=>h.mono e1.grow) hpS;refine a0 _ rfl (a0 _ rfl (q0 LS LM ss ms rfl sLS sLM (λD hD=>xC (K:=K) (a:=LS) (b:=LM) (xs:=ss) (ys:=ms) (by rw[hlS,hmsl])
   (λi Hc=>∃ (G2:Hp) (ys:List V) (ps:List (List Int)),j6 [] G1 H1 G2 Hc/\M7 G2 Hc D (.lst ys)/\Paired (IL G2) ys ps/\ps.length=i/\Ma.D3 (ts.take i) (M.take i)=some ps/\∀ p∈ps,p.length=7/\∀ x∈p,B 250000 x)
   (I0 G1 ([]) ([]) ⟨(j6.refl e1.sub).lend hD,⟨c9,e1.sub.free hD⟩,.nil,rfl,fV,λp hp=>nomatch hp⟩) (λi Hc _ h0=>by obtain⟨G2,_,_,e,_⟩:=h0;exact⟨e.same.seq sLS,e.same.seq sLM⟩) ?_ ?_)))
  ·rintro i x y1 T Hc hx hy ⟨G2,ys,ps,e2,oD,hp,hl,hq,hpB⟩ hT;obtain⟨t,ht,hst⟩:=D0 hpS1 hx;obtain⟨mc,hmc,t4,vm,vc,rfl,h4,hm1,hc1⟩:=D0 hpM hy;have hi:i<ts.length:=(List.getElem?_eq_some_iff.mp ht).1;have okt:=hok t (List.mem_of_getElem? ht);obtain⟨⟨m1,m2⟩,m3,m4⟩:=hmB mc (List.mem_of_getElem? hmc);have e3:=e2.lay hT (o:=.tup [x,.ref t4]);have g13:=e3.grow;generalize hG3:i8 G2 T (.tup [x,.ref t4])=G3 at e3 g13;have g23:l7 G2 G3:=by rw[<-hG3];exact Z2 (e2.sub.free hT)
   have nD:D≠T:=j3 oD.at_ hT;have oD3:M7 G3 (i8 Hc T (.tup [x,.ref t4])) D (.lst ys):=⟨by rw[i0 nD];exact oD.at_,by rw[<-hG3,i0 nD];exact oD.fr⟩;have h44:=e3.sub.seqT (g13.seqT h4);refine i3 T _ rfl (.of c9) rfl (J0 _ _ rfl (i3 _ _ rfl rfl rfl (a0 _ rfl (a0 _ rfl (j5 t4 _ _ _ rfl rfl h44 rfl (a0 _ rfl (j5 t4 _ _ _ rfl rfl h44 rfl (p9 G3 x vm vc t (I0 mc.1 mc.2 60000 ⟨rfl,e3.sub,hst.mono g13,hm1.mono g13,hc1.mono g13,m1.mono (by omega),m2.mono (by omega),m3.mono (by omega),m4.mono (by omega),(by decide),?_⟩)))))))));cases hpi:Ma.P4 t mc.1 mc.2 with
   |none=>exact k0 (nU ts M i t mc ht hmc hpi)
   |some p =>
    intro v4 G4 H4 e4 hil;have oD4:=oD3.ext e4 (by simp);have hb:=wV okt hpi (m1.mono (show _<=60000 by omega)) (m2.mono (show _<=60000 by omega)) (m3.mono (show _<=60000 by omega)) (m4.mono (show _<=60000 by omega));have hyl:ys.length=i:=by rw[Paired.length hp,hl]
    refine g9 ys oD4.at_ ?_ (I0 G4 (ys++[v4]) (ps++[p]) ⟨(e3.trans e4).put (.inl hD) oD4.fr,⟨c9,oD4.fr⟩,Paired.snoc (Paired.map' (λv l h=>IL.mono (g23.trans e4.grow) v l h) hp) hil,by rw[List.length_append,hl];rfl,?_,?_⟩)
    ·rw[hyl];exact Nat.lt_of_lt_of_le (Nat.lt_of_lt_of_le hi hlen) (by decide)
    ·rw[List.take_add_one,List.take_add_one,ht,hmc];exact nQ _ _ _ _ _ _ (by rw[List.length_take,List.length_take,hml]) hq hpi
    ·intro p' hp';rcases List.mem_append.mp hp' with h|h
     ·exact hpB p' h
     ·rw[List.mem_singleton.mp h];exact⟨hb.1,λx hx=>(hb.2 x hx).mono (by decide)⟩
  ·rintro Hc ⟨G2,ys,ps,e2,oD,hp,hl,hq,hpB⟩;rw[hlS,List.take_length,List.take_of_length_le (by rw[hml];exact Nat.le_refl _)]at hq;have hl':ps.length=ts.length:=by rw[hl,hlS]
   have e3:=e2.freeze oD.at_ hD;have g23:=Z2 (o:=.lst ys) oD.fr;have gD:i8 G2 D (.lst ys) D=some (.lst ys):=c9;generalize hG3:i8 G2 D (.lst ys)=G3 at e3 g23 gD;have hp3:Paired (IL G3) ys ps:=Paired.map' (λv l h=>IL.mono g23 v l h) hp;have sLS3:C9 K Hc LS ss:=e3.sub.seq (e3.grow.seq (e1.grow.seq hLS));have hpS3:Paired (dY K CT G3) ss ts:=Paired.map' (λ_ _ h=>h.mono e3.grow) hpS1;refine a0 _ rfl (g9 LS rfl (l9 _ sLS3) (λD2 hD2=>eU (K:=K) (a:=LS) (xs:=ss) (λi Hd=>∃ (G4:Hp),j6 [] G3 Hc G4 Hd/\M7 G4 Hd D2 (.lst ((((ts.take i).map Ma.y8)).map λ(n:Nat)=>V.int (n:Int))))
    (a0 G3 ((j6.refl e3.sub).lend hD2) ⟨c9,e3.sub.free hD2⟩) (λi Hd _ h0=>by obtain⟨G4,e,_⟩:=h0;exact e.same.seq sLS3) ?_ ?_))
   ·rintro i x Hd hx ⟨G4,e4,oE⟩;obtain⟨t,ht,hst⟩:=D0 hpS3 hx;have hi:i<ts.length:=(List.getElem?_eq_some_iff.mp ht).1;refine⟨rfl,a0 _ rfl (m8 G4 x t rfl e4.sub (hst.mono e4.grow) (λG5 H5 e5=>?_))⟩;have oE5:=oE.ext e5 (by simp);refine g9 _ oE5.at_ ?_ (a0 G5 ((e4.trans e5).put (.inl hD2) oE5.fr) ?_)
    ·rw[List.length_map,List.length_map,List.length_take];exact Nat.lt_of_le_of_lt (Nat.min_le_left _ _) (Nat.lt_of_lt_of_le (Nat.lt_of_lt_of_le hi hlen) (by decide))
    ·rw[List.take_add_one,ht,List.map_append,List.map_append];exact⟨c9,oE5.fr⟩
   ·rintro Hd ⟨G4,e4,oE⟩;rw[hlS,List.take_length]at oE;have e5:=e4.freeze oE.at_ hD2;have gE:i8 G4 D2 (.lst ((ts.map Ma.y8).map λ(n:Nat)=>V.int (n:Int))) D2=some (.lst ((ts.map Ma.y8).map λ(n:Nat)=>V.int (n:Int))):=c9;generalize hG5:i8 G4 D2 (.lst ((ts.map Ma.y8).map λ(n:Nat)=>V.int (n:Int)))=G5 at e5 gE;have hsc:∀ n∈ts.map Ma.y8,0<n/\n<2^1601:=by
     intro n hn;obtain⟨t,ht,rfl⟩:=List.mem_map.mp hn;exact⟨Ma.lE t,Ma.rD t (hok t ht)⟩
    refine a0 _ rfl (l8 G5 D2 (ts.map Ma.y8) 1601 rfl e5.sub (.of gE) hsc (by rw[List.length_map];omega) ?_);have bc:B 110000 ((Ma.U7 (ts.map Ma.y8):Nat):Int):=B.mono (show B (1+1601*ts.length) ((Ma.U7 (ts.map Ma.y8):Nat):Int) from Ma.jB ts hok) (by omega);have hmm:((ts.map Ma.y8).map λ(n:Nat)=>(n:Int))=ts.map λt=>((Ma.y8 t:Nat):Int):=by rw[List.map_map];rfl
    refine a0 _ rfl (a0 _ rfl (a0 _ rfl (p9 G5 D D2 ys ps (O0 (ts.map Ma.y8) _ 250000 110000 ⟨rfl,e5.sub,.of (e5.grow _ _ gD),Paired.map' (λv l h=>IL.mono e5.grow v l h) hp3,.of gE,by rw[List.length_map,hl'],hpB,λn hn=>(hsc n hn).1,bc,(by omega),λv7 G7 H7 e7 hil=>?_⟩))));rw[hmm]at hil;refine a0 _ rfl (a0 _ rfl (P9 G7 v7 (M0 _ N _ 30000 110000 rfl e7.sub hil bN bc (by decide) (λv8 G8 H8 e8 hpr=>?_))));exact k1 ps hq v8 G8 H8 (e1.trans (e3.trans (e5.trans (e7.trans e8)))) hpr
theorem AA {N s:Int}(hN:N≠0)(hs:s≠0)(l:List Int):(∀ pr∈l.zip (Ma.R8 N s),pr.2≠0)/\(l.zip (Ma.R8 N s)).length<=100:=by
 have h2:N*N≠0:=Int.mul_ne_zero hN hN;have h4:N*N*(N*N)≠0:=Int.mul_ne_zero h2 h2;have a1:N*N*(N*N)*s≠0:=Int.mul_ne_zero h4 hs;have a2:N*N*s≠0:=Int.mul_ne_zero h2 hs;refine⟨λpr hpr=>?_,?_⟩
 ·have:=(List.of_mem_zip (show(pr.1,pr.2)∈_ from hpr)).2;simp only[Ma.R8,List.mem_cons,List.not_mem_nil,or_false]at this;rcases this with h|h|h|h|h|h|h<;>rw[h]<;>assumption
 ·rw[List.length_zip];exact Nat.le_trans (Nat.min_le_right _ _) (show 7<=100 by decide)
open Ma (en)
theorem yo {α:Type}(pre:List α)(x:α):uU (pre++[x]) (-1)=some x:=by
 unfold uU;have:Bi (pre++[x]).length (-1)=some pre.length:=by
  unfold Bi;rw[if_neg (by decide),List.length_append,List.length_singleton,if_pos (by omega)];congr 1
  omega
 rw[this];show(pre++[x])[pre.length]?=some x;rw[List.getElem?_append_right (Nat.le_refl _),Nat.sub_self];rfl
theorem gu {α β:Type}{R:α->β->Prop}:∀ {ys:List β}{y:β}{xs:List α},Paired R xs (ys++[y])->∃ pre x,xs=pre++[x]/\R x y
 |[],_,_,.cons h .nil=>(J0 ([]) _ rfl h)
 |_::ys,y,_,.cons _ t=>by
  obtain⟨pre,x,rfl,h⟩:=gu (ys:=ys) t;exact J0 (_::pre) x rfl h
theorem gr {α β:Type}{R:α->β->Prop}:∀ {xs:List α}{ys:List β}{x:α}{y:β},Paired R xs ys->R x y->Paired R (xs++[x]) (ys++[y])
 |_,_,_,_,.nil,h=>.cons h .nil
 |_,_,_,_,.cons a t,h=>.cons a (gr t h)
def wm (K:W.Frag)(CT:Addr):Sp:=λvs H Q _=>∃ (G:Hp) (a r:V) (ts:List C0) (y v z u:Rat),vs=[a,r]/\l7 G H/\jH K CT G a ts/\Ls K (Fr K) G r [y,v,z,u]/\(∀ q∈[y,v,z,u],Sz 1000 q)/\ts.length<=64 /\
 ∀ x G' H',j6 [] G H G' H'->(∃ t,x=.ref t/\W2 K G' t [.int (Ma.ae ts y v (Ma.B6 ts [y,v,z,u])),.int (Ma.B6 ts [y,v,z,u])])->Q x H'
theorem iJ:i6 ["stations","rays","lengths","height","angle","met"] ["stations","rays"] (d8 aT):=⟨rfl,rfl,rfl,by decide +kernel,rfl,by decide +kernel,by decide +kernel⟩
theorem CZ {f:Addr}{fd:FuncData}(F:F1 K "last_angle" "last_angle" aT f fd)(Z:Tq K mg)(DT:EB prog w K mg base 1 CT "Station" ["self","stop","walk"] (BI K CT))(Dl:B8 prog w K mg base 1 "length_scale" ["stations","rays"] (wk K CT))(Do:B8 prog w K mg base 1 "on_scale" ["number","scale"] (we K))(Df:B8 prog w K mg base 1 "follow" ["stations","height","angle"] (iD K CT)) :
  o8 prog w K mg base (A7 prog w) 3 f fd ["stations","rays"] (wm K CT):=by
 refine F.okX iJ (λvs H Q E h=>?_) (λcdv A outer s H vs Q E hr h=>?_)
 ·obtain⟨G,a,r,ts,y,v,z,u,rfl,_⟩:=h;rfl
 ·obtain⟨G,a,_,ts,y,v,z,u,rfl,sm,hts,hrs,hsz,hlen,kk⟩:=h;have hr1:=hr.mono (show 1<=2 by decide);obtain⟨aZ,mZ,hZ⟩:=Z.zero_;refine a0 _ (c8 (i7 (i:=2) iJ.nd rfl (Or.inl rfl) (d9 Dl hr1 d6 (c7 (pv 0) (c7 (pv 1) d4))))
   (c8 (i7 (i:=3) iJ.nd rfl (Or.inl rfl) (d9 Do hr1 d6 (c7 (m7 u9 (pv 1) g8 (λ_ _=>rfl)) (c7 (pv 2) d4))))
   (c8 (i7 (i:=4) iJ.nd rfl (Or.inl rfl) (d9 Do hr1 d6 (c7 (m7 u9 (pv 1) g8 (λ_ _=>rfl)) (c7 (pv 2) d4))))
   (c8 (i7 (i:=5) iJ.nd rfl (Or.inl rfl) (m7 u9 (d9 Df hr1 d6 (c7 (i5 lV (pv 0) (C5 (c7 (iV DT hr d6 (c7 km (c7 (C6 (v:=.ref aZ) (by rfl) mZ rfl) d4))) d4))) (c7 (pv 3) (c7 (pv 4) d4)))) (eM aA g8) (λ_ _=>rfl)))
   (d7 (j1 (z9 (c7 (m7 r9 (pv 5) g8 (λ_ _=>rfl)) (c7 (pv 2) d4))))))))) ?_
  have htl:=hts.l;have hrs0:=hrs;obtain⟨LR,rs,rfl,hLR,hpR⟩:=hrs;obtain⟨LS,ss,rfl,hLS,hpS⟩:=hts;have hok:=mL hpS;have hlS:ss.length=ts.length:=Paired.length hpS;obtain⟨v0,rs,rfl,f0,hpR⟩:∃ v0 r',rs=v0::r'/\Fr K G v0 y/\Paired (Fr K G) r' [v,z,u]:=by cases hpR with|cons h t=>exact h9 _ _ rfl h t
  obtain⟨v1,rs,rfl,f1,hpR⟩:∃ v0 r',rs=v0::r'/\Fr K G v0 v/\Paired (Fr K G) r' [z,u]:=by cases hpR with|cons h t=>exact h9 _ _ rfl h t
  have sy:=hsz y (by simp);have sv:=hsz v (by simp);have bN:B 30000 (Ma.B6 ts [y,v,z,u]):=(Ma.mf ts [y,v,z,u] 1000 hok hsz).mono (by show 2+1000*4+390*ts.length<=30000;omega);have l0:=sm.seq hLR;refine a0 _ rfl (a0 _ rfl (l9 G (M0 (.ref LS) (.ref LR) ts ([y,v,z,u]) 1000 rfl sm htl hrs0 hsz (by show 1000*4+390*(ts.length+1)+10<=60000000;omega) ?_)));generalize hN:Ma.B6 ts [y,v,z,u]=N at bN kk⊢;refine a0 _ rfl (j5 LR _ _ _ rfl rfl l0 (bH (j:=0) rfl rfl) (a0 _ rfl (l8 G v0 y N rfl sm f0 (sy.mono (by decide)) (bN.mono (by decide)) ?_)));refine a0 _ rfl (j5 LR _ _ _ rfl rfl l0 (bH (j:=1) rfl rfl) (a0 _ rfl (l8 G v1 v N rfl sm f1 (sv.mono (by decide)) (bN.mono (by decide)) ?_)));refine a0 _ rfl (λx dx hx hdx hne=>?_);have hx1:i8 H dx (.own x) x=none:=by rw[i0 (λz=>hne z.symm)];exact hx
  refine O0 x dx _ _ ⟨rfl,c9,λzz hz=>⟨rfl,?_⟩⟩;rw[A8];have e1:j6 [] G H G (i8 (i8 H dx (.own x)) x (.ins CT dx (R3 (.bl true) (.ref aZ) zz zz zz zz zz zz))):=((j6.refl sm).lend hdx).lend hx1;have hxx:(i8 (i8 H dx (.own x)) x (.ins CT dx (R3 (.bl true) (.ref aZ) zz zz zz zz zz zz))) x=some (.ins CT dx (R3 (.bl true) (.ref aZ) zz zz zz zz zz zz)):=c9;generalize i8 (i8 H dx (.own x)) x (.ins CT dx (R3 (.bl true) (.ref aZ) zz zz zz zz zz zz))=H1 at e1 hxx;have e2:=e1.freeze hxx hx;have g2x:(i8 G x (.ins CT dx (R3 (.bl true) (.ref aZ) zz zz zz zz zz zz))) x=some (.ins CT dx (R3 (.bl true) (.ref aZ) zz zz zz zz zz zz)):=c9;generalize i8 G x (.ins CT dx (R3 (.bl true) (.ref aZ) zz zz zz zz zz zz))=G2 at e2 g2x;have hst:dY K CT G2 (.ref x) en:=⟨(p9 x dx (.ref aZ) zz zz (O0 zz zz zz zz ⟨rfl,g2x,(a0 aZ rfl (hZ _)),hz _,hz _,hz _,hz _,hz _,hz _⟩)),Ma.rh⟩;refine⟨(by show 1<=sizeLine;decide),λl1 hl1=>?_⟩;have e3:=e2.lay hl1 (o:=.lst [.ref x]);have g23:l7 G2 (i8 G2 l1 (.lst [.ref x])):=P2 (e2.sub.free hl1);have h3l:(i8 H1 l1 (.lst [.ref x])) l1=some (.lst [.ref x]):=c9;generalize i8 G2 l1 (.lst [.ref x])=G3 at e3 g23;generalize i8 H1 l1 (.lst [.ref x])=H3 at e3 h3l;refine l8 LS l1 ss ([.ref x]) rfl rfl (e3.sub _ _ (e3.grow _ _ hLS)) h3l (by rw[hlS];show ts.length+1<=sizeLine;exact Nat.le_trans (show ts.length+1<=65 by omega) (by decide)) (λl2 hl2=>?_);have e4:=e3.lay hl2 (o:=.lst (ss++[.ref x]));have g34:l7 G3 (i8 G3 l2 (.lst (ss++[.ref x]))):=P2 (e3.sub.free hl2);have h4l:(i8 G3 l2 (.lst (ss++[.ref x]))) l2=some (.lst (ss++[.ref x])):=c9;generalize i8 G3 l2 (.lst (ss++[.ref x]))=G4 at e4 g34 h4l;generalize i8 H3 l2 (.lst (ss++[.ref x]))=H4 at e4;have hst4:mQ K CT G4 (.ref l2) (ts++[en]):=(h9 l2 _ rfl (.of h4l) (gr (Paired.map' (λ_ _ h=>h.mono e4.grow) hpS) (hst.mono (g23.trans g34))));have oy:B (1000+30000) (Ma.F0 y N):=U4 sy bN;have ov:B (1000+30000) (Ma.F0 v N):=U4 sv bN;refine a0 _ rfl (a0 _ rfl (p9 G4 (.ref l2) (ts++[en]) (Ma.F0 y N) (Ma.F0 v N) (l9 31000 ⟨rfl,e4.sub,hst4,oy.mono (by decide),ov.mono (by decide),(by rw[List.length_append];show 31000+263*(ts.length+1+1)+200<=60000000;omega),(by rw[List.length_append];show ts.length+1<=1000;omega),λvm G5 H5 e5 hm=>?_⟩)));obtain⟨LM,ms,rfl,hLM,hpM⟩:=hm;obtain⟨pre,hh,c,hF,_⟩:=Ma.sh ts [y,v,z,u] y v (by simp) (by simp);rw[hN]at hF;rw[hF]at hpM;obtain⟨pm,xm,rfl,tm,rfl,htm⟩:=gu hpM;have hc:Ma.ae ts y v N=c:=by
   unfold Ma.ae;rw[hF,List.getLast?_append];rfl
  refine a0 _ rfl (j5 LM _ _ _ rfl rfl (e5.sub.seq hLM) (yo _ _) ?_);refine a0 _ rfl (j5 tm _ _ _ rfl rfl (e5.sub.seqT htm) rfl (g9 _ rfl (by show 2<=sizeLine;decide) (λp hp=>?_)));have e6:=(e4.trans e5).lay hp (o:=.tup [.int c,.int N]);exact kk _ _ _ e6 (a0 p rfl (.of (by rw[hc];exact c9)))
def lA (K:W.Frag)(F:List Int->Int->Int->Int->Int):Sp:=λvs H Q _=>∃ (G:Hp) (L:Addr) (s:List Int) (a b h:Int) (n:Nat),vs=[.ref L,.int a,.int b,.int h]/\l7 G H/\C9 K G L (s.map V.int)/\5<=s.length/\(∀ x∈s,B 400000 x)/\B n a/\B n b/\B n h/\n<=10000/\(B 500000 (F s a b h)->Q (.int (F s a b h)) H)
theorem BW:i6 ["s","a","b","h"] ["s","a","b","h"] (d8 iN):=⟨rfl,rfl,rfl,by decide +kernel,rfl,by decide +kernel,by decide +kernel⟩
theorem DI {f:Addr}{fd:FuncData}(F:F1 K "across" "across" iN f fd):o8 prog w K mg base (A7 prog w) 1 f fd ["s","a","b","h"] (lA K Ma.N8):=by
 refine F.okX BW (λvs H Q E h=>?_) (λcdv A outer s H vs Q E hr h=>?_)
 ·obtain⟨G,L,s,a,b,h,n,rfl,_⟩:=h;rfl
 ·obtain⟨G,L,s,a,b,h,n,rfl,sm,hL,hl,hs,ba,bb,bh,hn,kk⟩:=h;obtain⟨t0,t1,t2,t3,t4,r,rfl⟩:∃ t0 t1 t2 t3 t4 r,s=t0::t1::t2::t3::t4::r:=by
   rcases s with _|⟨t0,_|⟨t1,_|⟨t2,_|⟨t3,_|⟨t4,r⟩⟩⟩⟩⟩
   all_goals first
    |exact p9 _ _ _ _ _ (l9 _ rfl)
    | (simp only[List.length_cons,List.length_nil]at hl;omega)
  refine a0 _ (d7 (j1 (i5 C7 (i5 C7 (i5 i4 (i5 i4 (m7 u9 (pv 0) g8 (λ_ _=>rfl)) (i5 C7 (i5 i4 (pv 1) (pv 1)) (i5 i4 (pv 2) (pv 2)))) (pv 1)) (i5 i4 (i5 i4 (i5 i4 (i5 i4 g8 (m7 u9 (pv 0) g8 (λ_ _=>rfl))) (pv 1)) (pv 2)) (pv 3))) (i5 i4 (i5 i4 (i5 i4 (i5 C7 (m7 u9 (pv 0) g8 (λ_ _=>rfl)) (m7 u9 (pv 0) g8 (λ_ _=>rfl))) (pv 1)) (pv 3)) (pv 3))))) ?_;have bs0:=hs t0 (by simp);have bs1:=hs t1 (by simp);have bs2:=hs t2 (by simp);have bs3:=hs t3 (by simp);have bs4:=hs t4 (by simp);have sL:=sm.seq hL;have b0:=ba.mul ba;have b1:=bb.mul bb;have b2:=(b0.mono (show _<=2*n+0 by omega)).add (b1.mono (show _<=2*n+0 by omega));have b3:=bs0.mul b2;have b4:=b3.mul ba;have k5:B 2 2:=by unfold Ma.B;decide
  have b6:=k5.mul bs1;have b7:=b6.mul ba;have b8:=b7.mul bb;have b9:=b8.mul bh;have b10:=(b4.mono (show _<=3*n+400002 by omega)).add (b9.mono (show _<=3*n+400002 by omega));have b11:=(bs2.mono (show _<=0*n+400000 by omega)).add (bs3.mono (show _<=0*n+400000 by omega));have b12:=b11.mul ba;have b13:=b12.mul bh;have b14:=b13.mul bh;have b15:=(b10.mono (show _<=3*n+400003 by omega)).add (b14.mono (show _<=3*n+400003 by omega));exact a0 _ rfl (j5 L _ _ _ rfl rfl sL (bH (j:=0) rfl rfl) (a0 _ rfl (a0 _ rfl (i3 _ _ rfl rfl ⟨ba.mono (by omega),ba.mono (by omega)⟩ (a0 _ rfl (a0 _ rfl (i3 _ _ rfl rfl ⟨bb.mono (by omega),bb.mono (by omega)⟩ (h9 _ _ rfl rfl (i3 _ _ rfl rfl ⟨bs0.mono (by omega),b2.mono (by omega)⟩ (a0 _ rfl (i3 _ _ rfl rfl ⟨b3.mono (by omega),ba.mono (by omega)⟩ (a0 _ rfl (j5 L _ _ _ rfl rfl sL (bH (j:=1) rfl rfl) (i3 _ _ rfl rfl ⟨k5.mono (by omega),bs1.mono (by omega)⟩ (a0 _ rfl (i3 _ _ rfl rfl ⟨b6.mono (by omega),ba.mono (by omega)⟩ (a0 _ rfl (i3 _ _ rfl rfl ⟨b7.mono (by omega),bb.mono (by omega)⟩ (a0 _ rfl (i3 _ _ rfl rfl ⟨b8.mono (by omega),bh.mono (by omega)⟩ (h9 _ _ rfl rfl (a0 _ rfl (j5 L _ _ _ rfl rfl sL (bH (j:=2) rfl rfl) (a0 _ rfl (j5 L _ _ _ rfl rfl sL (bH (j:=3) rfl rfl) (h9 _ _ rfl rfl (a0 _ rfl (i3 _ _ rfl rfl ⟨b11.mono (by omega),ba.mono (by omega)⟩ (a0 _ rfl (i3 _ _ rfl rfl ⟨b12.mono (by omega),bh.mono (by omega)⟩ (a0 _ rfl (i3 _ _ rfl rfl ⟨b13.mono (by omega),bh.mono (by omega)⟩ (h9 _ _ rfl rfl (kk (b15.mono (by omega))))))))))))))))))))))))))))))))))))
theorem BV:i6 ["s","a","b","h"] ["s","a","b","h"] (d8 lQ):=⟨rfl,rfl,rfl,by decide +kernel,rfl,by decide +kernel,by decide +kernel⟩
theorem DG {f:Addr}{fd:FuncData}(F:F1 K "along" "along" lQ f fd):o8 prog w K mg base (A7 prog w) 1 f fd ["s","a","b","h"] (lA K Ma.V0):=by
 refine F.okX BV (λvs H Q E h=>?_) (λcdv A outer s H vs Q E hr h=>?_)
 ·obtain⟨G,L,s,a,b,h,n,rfl,_⟩:=h;rfl
 ·obtain⟨G,L,s,a,b,h,n,rfl,sm,hL,hl,hs,ba,bb,bh,hn,kk⟩:=h;obtain⟨t0,t1,t2,t3,t4,r,rfl⟩:∃ t0 t1 t2 t3 t4 r,s=t0::t1::t2::t3::t4::r:=by
   rcases s with _|⟨t0,_|⟨t1,_|⟨t2,_|⟨t3,_|⟨t4,r⟩⟩⟩⟩⟩
   all_goals first
    |exact p9 _ _ _ _ _ (l9 _ rfl)
    | (simp only[List.length_cons,List.length_nil]at hl;omega)
  refine a0 _ (d7 (j1 (i5 C7 (i5 C7 (i5 C7 (i5 i4 (i5 i4 (m7 u9 (pv 0) g8 (λ_ _=>rfl)) (i5 C7 (i5 i4 (pv 1) (pv 1)) (i5 i4 (pv 2) (pv 2)))) (pv 2)) (i5 i4 (i5 i4 (m7 u9 (pv 0) g8 (λ_ _=>rfl)) (i5 C7 (i5 i4 (pv 1) (pv 1)) (i5 i4 (i5 i4 g8 (pv 2)) (pv 2)))) (pv 3))) (i5 i4 (i5 i4 (i5 i4 (i5 C7 (i5 i4 g8 (m7 u9 (pv 0) g8 (λ_ _=>rfl))) (m7 u9 (pv 0) g8 (λ_ _=>rfl))) (pv 2)) (pv 3)) (pv 3))) (i5 i4 (i5 i4 (i5 i4 (m7 u9 (pv 0) g8 (λ_ _=>rfl)) (pv 3)) (pv 3)) (pv 3))))) ?_;have bs0:=hs t0 (by simp);have bs1:=hs t1 (by simp);have bs2:=hs t2 (by simp);have bs3:=hs t3 (by simp);have bs4:=hs t4 (by simp);have sL:=sm.seq hL;have b0:=ba.mul ba;have b1:=bb.mul bb;have b2:=(b0.mono (show _<=2*n+0 by omega)).add (b1.mono (show _<=2*n+0 by omega));have b3:=bs0.mul b2;have b4:=b3.mul bb;have k5:B 2 3:=by unfold Ma.B;decide
  have b6:=k5.mul bb;have b7:=b6.mul bb;have b8:=(b0.mono (show _<=2*n+2 by omega)).add (b7.mono (show _<=2*n+2 by omega));have b9:=bs1.mul b8;have b10:=b9.mul bh;have b11:=(b4.mono (show _<=3*n+400003 by omega)).add (b10.mono (show _<=3*n+400003 by omega));have b12:=k5.mul bs2;have b13:=(b12.mono (show _<=0*n+400002 by omega)).add (bs3.mono (show _<=0*n+400002 by omega));have b14:=b13.mul bb;have b15:=b14.mul bh;have b16:=b15.mul bh;have b17:=(b11.mono (show _<=3*n+400004 by omega)).add (b16.mono (show _<=3*n+400004 by omega));have b18:=bs4.mul bh;have b19:=b18.mul bh;have b20:=b19.mul bh;have b21:=(b17.mono (show _<=3*n+400005 by omega)).add (b20.mono (show _<=3*n+400005 by omega));exact a0 _ rfl (j5 L _ _ _ rfl rfl sL (bH (j:=0) rfl rfl) (a0 _ rfl (a0 _ rfl (i3 _ _ rfl rfl ⟨ba.mono (by omega),ba.mono (by omega)⟩ (a0 _ rfl (a0 _ rfl (i3 _ _ rfl rfl ⟨bb.mono (by omega),bb.mono (by omega)⟩ (h9 _ _ rfl rfl (i3 _ _ rfl rfl ⟨bs0.mono (by omega),b2.mono (by omega)⟩ (a0 _ rfl (i3 _ _ rfl rfl ⟨b3.mono (by omega),bb.mono (by omega)⟩ (a0 _ rfl (j5 L _ _ _ rfl rfl sL (bH (j:=1) rfl rfl) (a0 _ rfl (a0 _ rfl (i3 _ _ rfl rfl ⟨ba.mono (by omega),ba.mono (by omega)⟩ (a0 _ rfl (i3 _ _ rfl rfl ⟨k5.mono (by omega),bb.mono (by omega)⟩ (a0 _ rfl (i3 _ _ rfl rfl ⟨b6.mono (by omega),bb.mono (by omega)⟩ (h9 _ _ rfl rfl (i3 _ _ rfl rfl ⟨bs1.mono (by omega),b8.mono (by omega)⟩ (a0 _ rfl (i3 _ _ rfl rfl ⟨b9.mono (by omega),bh.mono (by omega)⟩ (h9 _ _ rfl rfl (a0 _ rfl (j5 L _ _ _ rfl rfl sL (bH (j:=2) rfl rfl) (i3 _ _ rfl rfl ⟨k5.mono (by omega),bs2.mono (by omega)⟩ (a0 _ rfl (j5 L _ _ _ rfl rfl sL (bH (j:=3) rfl rfl) (h9 _ _ rfl rfl (a0 _ rfl (i3 _ _ rfl rfl ⟨b13.mono (by omega),bb.mono (by omega)⟩ (a0 _ rfl (i3 _ _ rfl rfl ⟨b14.mono (by omega),bh.mono (by omega)⟩ (a0 _ rfl (i3 _ _ rfl rfl ⟨b15.mono (by omega),bh.mono (by omega)⟩ (h9 _ _ rfl rfl (a0 _ rfl (j5 L _ _ _ rfl rfl sL (bH (j:=4) rfl rfl) (a0 _ rfl (i3 _ _ rfl rfl ⟨bs4.mono (by omega),bh.mono (by omega)⟩ (a0 _ rfl (i3 _ _ rfl rfl ⟨b18.mono (by omega),bh.mono (by omega)⟩ (a0 _ rfl (i3 _ _ rfl rfl ⟨b19.mono (by omega),bh.mono (by omega)⟩ (h9 _ _ rfl rfl (kk (b21.mono (by omega))))))))))))))))))))))))))))))))))))))))))))))))))
theorem rR {n:Nat}:∀ (ts:List C0) (ms:List ((Int×Int)×(Int×Int))) (ps:List (List Int)),Ma.D3 ts ms=some ps->(∀ t∈ts,K5 t)->(∀ mc∈ms,(B n mc.1.1/\B n mc.1.2)/\B n mc.2.1/\B n mc.2.2)->∀ p∈ps,∀ x∈p,B (4*n+2010) x
 |[],ms,ps,h,_,_=>by
  rw[Ma.D3]at h
  ·cases h;intro p hp;cases hp
  ·intro _ _ _ _ _ z;cases z
 |t::ts,[],ps,h,_,_=>by
  rw[Ma.D3]at h
  ·cases h;intro p hp;cases hp
  ·intro _ _ _ _ _ _ z;cases z
 |t::ts,mc::ms,ps,h,ok,hb=>by
  rw[U3]at h;cases hp:Ma.P4 t mc.1 mc.2 with
  |none=>rw[hp]at h;cases h
  |some p =>
   rw[hp]at h;cases hq:Ma.D3 ts ms with
   |none=>rw[hq]at h;cases h
   |some qs =>
    rw[hq]at h;have h:p::qs=ps:=Option.some.inj h;subst h;intro p' hp' x hx;rcases List.mem_cons.mp hp' with e|e
    ·subst e;obtain⟨⟨c1,c2⟩,c3,c4⟩:=hb mc (List.mem_cons_self ..);exact(wV (ok t (List.mem_cons_self ..)) hp c1 c2 c3 c4).2 x hx
    ·exact rR ts ms qs hq (λt ht=>ok t (List.mem_cons_of_mem _ ht)) (λmc hm=>hb mc (List.mem_cons_of_mem _ hm)) p' e x hx
theorem yw {nb nc:Nat}{cm:Int}(hcm:B nc cm):∀ (l:List (List Int×Int)) (tot:List Int) (k:Nat),nb+nc<=k->(∀ x∈tot,B k x)->(∀ pr∈l,(∃ n:Nat,pr.2=(n:Int))/\∀ x∈pr.1,B nb x)->∀ x∈Ma.gh tot l cm,B (k+l.length) x
 |[],tot,k,_,h,_=>h
 | (p,s)::r,tot,k,hk,h,hl=>by
  intro x hx;have:=yw hcm r (List.zipWith (λt n=>t+n*(cm/s)) tot p) (k+1) (by omega) (uW λt ht n hn=>by
   have b1:=h t ht;obtain⟨⟨d,hd⟩,hp⟩:=hl (p,s) (List.mem_cons_self ..);have hd:s=(d:Int):=hd;have b2:B k (n*(cm/s)):=by rw[hd];exact((hp n hn).mul (B.div (d:=d) hcm)).mono hk
   exact b1.add b2) (λpr hpr=>hl pr (List.mem_cons_of_mem _ hpr)) x hx
  exact this.mono (by rw[List.length_cons];omega)
theorem EL {ts:List C0}{y v z u:Rat}{tot:List Int}(ok:∀ t∈ts,K5 t)(hsz:∀ q∈[y,v,z,u],Sz 1000 q)(hl:ts.length<=64)(h:Ma.bB ts y v z u=some tot):∀ x∈tot,B 400000 x:=by
 have bN:B 30000 (Ma.B6 ts [y,v,z,u]):=(Ma.mf ts [y,v,z,u] 1000 ok hsz).mono (by show 2+1000*4+390*ts.length<=30000;omega);have hm:=rW (ts:=ts) (N:=Ma.B6 ts [y,v,z,u]) ok hsz bN;have bc:B 110000 ((Ma.z7 ts:Nat):Int):=B.mono (show B (1+1601*ts.length) ((Ma.z7 ts:Nat):Int) from Ma.jB ts ok) (by omega);unfold Ma.bB at h;cases hp:Ma.D3 ts (Ma.du ts (Ma.B6 ts [y,v,z,u]) y v z u)with
 |none=>rw[hp]at h;cases h
 |some ps =>
  rw[hp]at h;have hB:=rR (n:=60000) ts _ ps hp ok λmc hmc=>by
   obtain⟨⟨c1,c2⟩,c3,c4⟩:=hm mc hmc;exact⟨⟨c1.mono (by omega),c2.mono (by omega)⟩,c3.mono (by omega),c4.mono (by omega)⟩
  have h:Ma.gh Ma.S4 (ps.zip (ts.map λt=>((Ma.y8 t:Nat):Int))) ((Ma.z7 ts:Nat):Int)=tot:=Option.some.inj h;subst h;intro x hx;refine(yw (nb:=250000) bc (ps.zip (ts.map λt=>((Ma.y8 t:Nat):Int))) Ma.S4 360000 (by decide) ?_ ?_ x hx).mono ?_
  ·intro x hx;have:x=0:=by
    simp only[Ma.S4,List.mem_cons,List.not_mem_nil,or_false,or_self]at hx;exact hx
   rw[this];exact Nat.pow_pos (by decide)
  ·intro pr hpr;obtain⟨h1,h2⟩:=List.of_mem_zip (show(pr.1,pr.2)∈_ from hpr);obtain⟨t,_,ht⟩:=List.mem_map.mp h2;exact⟨(l9 _ ht.symm),λx hx=>(hB pr.1 h1 x hx).mono (by decide)⟩
  ·rw[List.length_zip,List.length_map];have:min ps.length ts.length<=ts.length:=Nat.min_le_right _ _;omega
theorem qT {ts:List C0}{y v z u:Rat}{tot:List Int}(h:Ma.bB ts y v z u=some tot):(tot.zip (Ma.R8 (Ma.B6 ts [y,v,z,u]) (Ma.z7 ts))).length=7:=by
 have hs:=Ma.nr ts y v z u;rw[h]at hs;cases hS:Ma.bA ts ⟨y,v⟩ ⟨z,u⟩ Ln.Sums.none with
 |none=>rw[hS]at hs;cases hs
 |some x =>
  rw[hS]at hs;have hs:Ma.w9 (tot.zip (Ma.R8 (Ma.B6 ts [y,v,z,u]) (Ma.z7 ts)))=Ma.S7 x:=Option.some.inj hs;have:=congrArg List.length hs;rw[Ma.w9,List.length_map]at this;exact this
theorem ko {K:W.Frag}{G G':Hp}(s:l7 G G'){vs:List V}{prs:List (Int×Int)}(h:Paired (λv (pr:Int×Int)=>∃ t,v=.ref t/\W2 K G t [.int pr.1,.int pr.2]) vs prs):Paired (λv (pr:Int×Int)=>∃ t,v=.ref t/\W2 K G' t [.int pr.1,.int pr.2]) vs prs:=by
 induction h with
 |nil=>exact .nil
 |cons h _ ih=>obtain⟨t,e,h⟩:=h;exact .cons (a0 t e (s.seqT h)) ih
noncomputable def di (p q k:Rat):Nat:=Ma.U7 [p.den,q.den,k.den]
theorem oN (p q k:Rat):0<di p q k:=Ma.eR λx hx=>by
 simp only[List.mem_cons,List.not_mem_nil,or_false]at hx;rcases hx with h|h|h<;>rw[h]<;>exact Rat.den_pos _
theorem DQ {p q k:Rat}(hp:Sz 60 p)(hq:Sz 60 q)(hk:Sz 60 k):B 200 ((di p q k:Nat):Int):=by
 have e:di p q k=Ma.U7 (([]++[p.den])++[q.den]++[k.den]):=rfl;have st:∀ (l:List Nat) (d:Nat) (n m:Nat),B n ((Ma.U7 l:Nat):Int)->B m (d:Int)->B (n+m) ((Ma.U7 (l++[d]):Nat):Int):=λl d n m h1 h2=>by
  rw[kD,Int.natCast_mul];refine h1.mul ?_;rw[Int.natCast_ediv];exact B.div (d:=_) h2
 rw[e];have b0:B 1 ((Ma.U7 []:Nat):Int):=by show B 1 1;unfold Ma.B;decide
 exact(st _ _ _ _ (st _ _ _ _ (st _ _ _ _ b0 hp.den) hq.den) hk.den).mono (by decide)
noncomputable def ui (ts:List C0)(y v z u p q k:Rat):Option (List (Int×Int)):=match Ma.bB ts y v z u with
 |none=>none
 |some tot=>if Ma.ae ts y v (Ma.B6 ts [y,v,z,u])=0 then none else
  some (Ma.DK (tot.zip (Ma.R8 (Ma.B6 ts [y,v,z,u]) (Ma.z7 ts))) (Ma.B6 ts [y,v,z,u]) (Ma.ae ts y v (Ma.B6 ts [y,v,z,u])) ((di p q k:Nat):Int) (Ma.F0 p ((di p q k:Nat):Int)) (Ma.F0 q ((di p q k:Nat):Int)) (Ma.F0 k ((di p q k:Nat):Int)))
theorem zV {ts:List C0}{y v:Rat}{N:Int}(ok:∀ t∈ts,K5 t)(hy:Sz 1000 y)(hv:Sz 1000 v)(hN:B 30000 N)(hl:ts.length<=64):B 60000 (Ma.ae ts y v N):=by
 have key:=cX (ts++[Ma.en]) 31000 (Ma.F0 y N) (Ma.F0 v N) (λt ht=>by
  rcases List.mem_append.mp ht with h|h
  ·exact ok t h
  ·rw[List.mem_singleton.mp h];exact Ma.rh) ((U4 hy hN).mono (by decide)) ((U4 hv hN).mono (by decide))
 unfold Ma.ae;cases h:(Ma.A9 (ts++[Ma.en]) (Ma.F0 y N) (Ma.F0 v N)).getLast? with
 |none=>show B 60000 0;unfold Ma.B;exact Nat.pow_pos (by decide)
 |some pr =>
  have:=(key pr (List.mem_of_getLast? h)).2;rw[List.length_append]at this;exact this.mono (by show 31000+263*(ts.length+1)<=60000;omega)
def wg (K:W.Frag)(CT CP:Addr):Sp:=λvs H Q E=>∃ (G:Hp) (a r x:V) (ts:List C0) (y v z u p q k:Rat),vs=[a,r,x]/\l7 G H/\jH K CT G a ts/\Ls K (Fr K) G r [y,v,z,u]/\Ls K (Fr K) G x [p,q,k]/\(∀ q∈[y,v,z,u],Sz 60 q)/\(∀ x∈[p,q,k],Sz 60 x)/\ts.length<=64 /\
 match ui ts y v z u p q k with
 |some prs=>∀ x G' H',j6 [] G H G' H'->qO K G' x prs->Q x H'
 |none=>∀ H',E (.ref CP) none H'
theorem Q0:i6 ["stations","rays","turns","found","angle","tops","scale","a","b","h","bottom","pair","number"] ["stations","rays","turns"] (d8 Z4):=⟨rfl,rfl,rfl,by decide +kernel,rfl,by decide +kernel,by decide +kernel⟩
theorem CQ {f:Addr}{fd:FuncData}(F:F1 K "offsets" "offsets" Z4 f fd)(Z:Ey K mg CP)(Ds:B8 prog w K mg base 6 "sums_of" ["stations","rays"] (nu K CT CP))(Da:B8 prog w K mg base 3 "last_angle" ["stations","rays"] (wm K CT))(Dc:B8 prog w K mg base 2 "least_multiple" ["scales"] (rm K))(Do:B8 prog w K mg base 1 "on_scale" ["number","scale"] (we K))
  (Dx:B8 prog w K mg base 1 "across" ["s","a","b","h"] (lA K Ma.N8)) (Dy:B8 prog w K mg base 1 "along" ["s","a","b","h"] (lA K Ma.V0)) :
  o8 prog w K mg base (A7 prog w) 7 f fd ["stations","rays","turns"] (wg K CT CP):=by
 refine F.okX Q0 (λvs H Q E h=>?_) (λcdv A outer s H vs Q E hr h=>?_)
 ·obtain⟨G,a,r,x,ts,y,v,z,u,p,q,k,rfl,_⟩:=h;rfl
 ·obtain⟨G,a,r,_,ts,y,v,z,u,p,q,k,rfl,sm,hts,hrs,⟨LT,tv,rfl,hLT,hpT⟩,hsz,hst,hlen,kk⟩:=h;have hr1:=hr.mono (show 1<=6 by decide);have hr2:=hr.mono (show 2<=6 by decide);have hr3:=hr.mono (show 3<=6 by decide);refine a0 _ (c8 (i7 (i:=3) Q0.nd rfl (Or.inl rfl) (d9 Ds hr d6 (c7 (pv 0) (c7 (pv 1) d4))))
   (c8 (i7 (i:=4) Q0.nd rfl (Or.inl rfl) (d9 Da hr3 d6 (c7 (pv 0) (c7 (pv 1) d4))))
   (c8 (y2 (m9 K2 (m7 r9 (pv 4) g8 (λ_ _=>rfl)) g8 (n9 _)) (d7 (K8 N0 rfl (by rfl) Z.np.m Z.np.c)) l6)
   (c8 (iU (wi:=sx K (J6 3)) (te:=vQ (wJ K) (J6 11) (tC (.int 0))) (i:=5) (own:=[("pair",11)]) rfl Q0.nd rfl rfl (aC rfl rfl rfl rfl) (K9 (pv 3)) (N7 (show jG ["stations","rays","turns","found","angle","tops","scale","a","b","h","bottom","pair","number"] (d8 Z4) _ _=true by decide +kernel)) (λ_ _ _ _ _=>y9 (i:=11) Q0.nd rfl (Or.inl rfl)) (λ_ _ _ _ _=>R4) (λ_ _ _ _ _=>m7 r9 (pv 11) g8 (λ_ _=>rfl)))
   (c8 (i7 (i:=6) Q0.nd rfl (Or.inl rfl) (d9 Dc hr2 d6 (c7 (AY (wi:=sx K (J6 2)) (te:=vQ (wJ K) (J6 12) (tC (.int 1))) (own:=[("number",12)]) rfl Q0.nd (K9 (pv 2)) (N7 (show jG ["stations","rays","turns","found","angle","tops","scale","a","b","h","bottom","pair","number"] (d8 Z4) _ _=true by decide +kernel)) (λ_ _ _ _ _=>y9 (i:=12) Q0.nd rfl (Or.inl rfl)) (λ_ _ _ _ _=>R4) (λ_ _ _ _ _=>m7 r9 (pv 12) g8 (λ_ _=>rfl))) d4)))
   (c8 (i7 (i:=7) Q0.nd rfl (Or.inl rfl) (d9 Do hr1 d6 (c7 (m7 u9 (pv 2) g8 (λ_ _=>rfl)) (c7 (pv 6) d4))))
   (c8 (i7 (i:=8) Q0.nd rfl (Or.inl rfl) (d9 Do hr1 d6 (c7 (m7 u9 (pv 2) g8 (λ_ _=>rfl)) (c7 (pv 6) d4))))
   (c8 (i7 (i:=9) Q0.nd rfl (Or.inl rfl) (d9 Do hr1 d6 (c7 (m7 u9 (pv 2) g8 (λ_ _=>rfl)) (c7 (pv 6) d4))))
   (c8 (i7 (i:=10) Q0.nd rfl (Or.inl rfl) (i5 i4 (i5 i4 (i5 i4 (m7 r9 (m7 u9 (pv 3) g8 (λ_ _=>rfl)) g8 (λ_ _=>rfl)) (i5 i4 (i5 i4 (pv 6) (pv 6)) (pv 6))) g8) (m7 r9 (pv 4) g8 (λ_ _=>rfl))))
   (d7 (j1 (C5 (c7 (z9 (c7 (i5 i4 (d9 Dx hr1 d6 (c7 (pv 5) (c7 (pv 7) (c7 (pv 8) (c7 (pv 9) d4))))) (m7 r9 (pv 4) g8 (λ_ _=>rfl))) (c7 (pv 10) d4))) (c7 (z9 (c7 (i5 i4 (d9 Dy hr1 d6 (c7 (pv 5) (c7 (pv 7) (c7 (pv 8) (c7 (pv 9) d4))))) (m7 r9 (pv 4) g8 (λ_ _=>rfl))) (c7 (pv 10) d4))) d4)))))))))))))) ?_
  have hok:∀ t∈ts,K5 t:=by
   obtain⟨LS,ss,rfl,hLS,hpS⟩:=hts;exact mL hpS
  have hsz':∀ q∈[y,v,z,u],Sz 1000 q:=λq hq=>(hsz q hq).mono (by decide);have sy:=hsz' y (by simp);have sv:=hsz' v (by simp);have sp:=hst p (by simp);have sq:=hst q (by simp);have sk:=hst k (by simp);have bN:B 30000 (Ma.B6 ts [y,v,z,u]):=(Ma.mf ts [y,v,z,u] 1000 hok hsz').mono (by show 2+1000*4+390*ts.length<=30000;omega);have bC:=zV hok sy sv bN hlen;have bS:=DQ sp sq sk;have bcm:B 110000 ((Ma.z7 ts:Nat):Int):=B.mono (show B (1+1601*ts.length) ((Ma.z7 ts:Nat):Int) from Ma.jB ts hok) (by omega);refine a0 _ rfl (a0 _ rfl (I0 G a r (M0 ts y v z u rfl sm hts.l hrs hsz' hlen ?_)));unfold ui at kk;cases hS:Ma.bB ts y v z u with
  |none=>rw[hS]at kk;exact kk
  |some tot =>
   rw[hS]at kk;dsimp only at kk;have hz7:=qT hS;have hB:=EL hok hsz' hlen hS;generalize hN:Ma.B6 ts [y,v,z,u]=N at *;generalize hCm:((Ma.z7 ts:Nat):Int)=cm at *;generalize hC:Ma.ae ts y v N=c at *;have hpB:∀ pr∈tot.zip (Ma.R8 N cm),B 400000 pr.1/\B 300000 pr.2:=by
    intro pr hpr;obtain⟨h1,h2⟩:=List.of_mem_zip (show(pr.1,pr.2)∈_ from hpr);refine⟨hB _ h1,?_⟩;have b2:B 60000 (N*N):=(bN.mul bN).mono (by decide);have b4:B 230000 (N*N*(N*N)*cm):=((b2.mul b2).mul bcm).mono (by decide);have b6:B 230000 (N*N*cm):=(b2.mul bcm).mono (by decide);simp only[Ma.R8,List.mem_cons,List.not_mem_nil,or_false]at h2;rcases h2 with h|h|h|h|h|h|h<;>rw[h]<;>first|exact b4.mono (by decide)|exact b6.mono (by decide)
   generalize hP:tot.zip (Ma.R8 N cm)=prs at *;intro xf G1 H1 e1 hf;rw[hP]at hf;obtain⟨LF,fv,rfl,hLF,hpF⟩:=hf;have hts1:jH K CT G1 a ts:=by
    obtain⟨LS,ss,rfl,hLS,hpS⟩:=hts;exact h9 LS ss rfl (e1.grow _ _ hLS) (Paired.map' (λ_ _ h=>h.mono e1.grow) hpS)
   have hrs1:Ls K (Fr K) G1 r [y,v,z,u]:=by
    obtain⟨LR,rs,rfl,hLR,hpR⟩:=hrs;exact h9 LR rs rfl (e1.grow.seq hLR) (Paired.map' (λ_ _ h=>Fr.mono _ _ _ _ e1.grow h) hpR)
   refine a0 _ rfl (a0 _ rfl (I0 G1 a r (M0 ts y v z u rfl e1.sub hts1 hrs1 hsz' hlen (λxa G2 H2 e2 ha=>?_))));rw[hN,hC]at ha;obtain⟨TA,rfl,hTA⟩:=ha;have e02:=e1.trans e2;refine a0 _ rfl (l8 TA _ _ _ rfl rfl (e2.sub.seqT hTA) rfl rfl (a0 _ rfl (N5 (λh0=>?_) (λh0=>?_))))
   ·rw[if_pos h0]at kk;exact kk _
   rw[if_neg h0]at kk;have lF2:C9 K H2 LF fv:=e2.sub.seq (e2.grow.seq hLF);have hpF2:Paired (λv (pr:Int×Int)=>∃ t,v=.ref t/\W2 K G2 t [.int pr.1,.int pr.2]) fv prs:=ko e2.grow hpF;have hlF:fv.length=7:=by rw[Paired.length hpF];exact hz7
   refine a0 _ rfl (g9 LF rfl (l9 _ lF2) (λD hD=>eU (K:=K) (a:=LF) (xs:=fv) (λi Hc=>Hc=i8 H2 D (.lst ((prs.take i).map λpr=>V.int pr.1))) rfl (λi Hc _ e=>by rw[e];exact(S2 (l7.refl H2) hD).seq lF2) ?_ ?_))
   ·rintro i x Hc hx rfl;obtain⟨pr,hpr,t,rfl,ht⟩:=D0 hpF2 hx;refine⟨rfl,a0 _ rfl (j5 t _ _ _ rfl rfl ((S2 e2.sub hD).seqT ht) rfl (g9 _ c9 ?_ ?_))⟩
    ·rw[List.length_map,List.length_take];exact Nat.lt_of_le_of_lt (Nat.min_le_right _ _) (by rw[hz7];decide)
    ·rw[A8,List.take_add_one,hpr,List.map_append];rfl
   rintro Hc rfl;rw[hlF,List.take_of_length_le (by rw[hz7];exact Nat.le_refl _)];have e3:=e02.lay hD (o:=.lst (prs.map λpr=>V.int pr.1));have g3:=P2 (o:=.lst (prs.map λpr=>V.int pr.1)) (e2.sub.free hD);have gD:(i8 G2 D (.lst (prs.map λpr=>V.int pr.1))) D=some (.lst (prs.map λpr=>V.int pr.1)):=c9;generalize i8 G2 D (.lst (prs.map λpr=>V.int pr.1))=G3 at e3 g3 gD;generalize i8 H2 D (.lst (prs.map λpr=>V.int pr.1))=H3 at e3;have lT3:C9 K H3 LT tv:=e3.sub.seq (e3.grow.seq hLT);have hpT3:Paired (Fr K G3) tv [p,q,k]:=Paired.map' (λ_ _ h=>Fr.mono _ _ _ _ e3.grow h) hpT;have hlT:tv.length=3:=Paired.length hpT;refine a0 _ rfl (g9 LT rfl (l9 _ lT3) (λD2 hD2=>eU (K:=K) (a:=LT) (xs:=tv) (λi Hc=>Hc=i8 H3 D2 (.lst ((([p,q,k].take i).map λ(x:Rat)=>x.den).map λ(n:Nat)=>V.int (n:Int)))) rfl (λi Hc _ e=>by rw[e];exact(S2 (l7.refl H3) hD2).seq lT3) ?_ ?_))
   ·rintro i x Hc hx rfl;obtain⟨o,ho,t,rfl,ht⟩:=D0 hpT3 hx;refine⟨rfl,a0 _ rfl (j5 t _ _ _ rfl rfl ((S2 e3.sub hD2).seqT ht) rfl (g9 _ c9 ?_ ?_))⟩
    ·rw[List.length_map,List.length_map,List.length_take];exact Nat.lt_of_le_of_lt (Nat.min_le_right _ _) (show 3<sizeLine by decide)
    ·rw[A8,List.take_add_one,ho,List.map_append,List.map_append];rfl
   rintro Hc rfl;rw[hlT];have e4:=e3.lay hD2 (o:=.lst ((([p,q,k].take 3).map λ(x:Rat)=>x.den).map λ(n:Nat)=>V.int (n:Int)));have g4:=P2 (o:=.lst ((([p,q,k].take 3).map λ(x:Rat)=>x.den).map λ(n:Nat)=>V.int (n:Int))) (e3.sub.free hD2);have gD2:(i8 G3 D2 (.lst ((([p,q,k].take 3).map λ(x:Rat)=>x.den).map λ(n:Nat)=>V.int (n:Int)))) D2=some (.lst ((([p,q,k].take 3).map λ(x:Rat)=>x.den).map λ(n:Nat)=>V.int (n:Int))):=c9;generalize i8 G3 D2 (.lst ((([p,q,k].take 3).map λ(x:Rat)=>x.den).map λ(n:Nat)=>V.int (n:Int)))=G4 at e4 g4 gD2;generalize i8 H3 D2 (.lst ((([p,q,k].take 3).map λ(x:Rat)=>x.den).map λ(n:Nat)=>V.int (n:Int)))=H4 at e4;refine l8 G4 D2 ([p.den,q.den,k.den]) 60 rfl e4.sub (.of gD2) ?_ (by show 60*(3+1)+2<=60000000;decide) ?_
   ·intro n hn;simp only[List.mem_cons,List.not_mem_nil,or_false]at hn;rcases hn with h|h|h<;>rw[h]
    ·exact⟨p.den_pos,sp.2⟩
    ·exact⟨q.den_pos,sq.2⟩
    ·exact⟨k.den_pos,sk.2⟩
   have hSc:((Ma.U7 [p.den,q.den,k.den]:Nat):Int)=((di p q k:Nat):Int):=rfl;rw[hSc];generalize((di p q k:Nat):Int)=S at *;obtain⟨t0,tv,rfl,f0,hpT⟩:∃ v0 r',tv=v0::r'/\Fr K G v0 p/\Paired (Fr K G) r' [q,k]:=by cases hpT with|cons h t=>exact h9 _ _ rfl h t
   obtain⟨t1,tv,rfl,f1,hpT⟩:∃ v0 r',tv=v0::r'/\Fr K G v0 q/\Paired (Fr K G) r' [k]:=by cases hpT with|cons h t=>exact h9 _ _ rfl h t
   obtain⟨t2,tv,rfl,f2,hpT⟩:∃ v0 r',tv=v0::r'/\Fr K G v0 k/\Paired (Fr K G) r' []:=by cases hpT with|cons h t=>exact h9 _ _ rfl h t
   cases hpT;have lT4:=e4.sub.seq (e4.grow.seq hLT);have bs6:B 60000000 S:=bS.mono (by decide);refine a0 _ rfl (j5 LT _ _ _ rfl rfl lT4 rfl (a0 _ rfl (l8 G4 t0 p S rfl e4.sub (Fr.mono _ _ _ _ e4.grow f0) (sp.mono (by decide)) bs6 ?_)));refine a0 _ rfl (j5 LT _ _ _ rfl rfl lT4 rfl (a0 _ rfl (l8 G4 t1 q S rfl e4.sub (Fr.mono _ _ _ _ e4.grow f1) (sq.mono (by decide)) bs6 ?_)));refine a0 _ rfl (j5 LT _ _ _ rfl rfl lT4 rfl (a0 _ rfl (l8 G4 t2 k S rfl e4.sub (Fr.mono _ _ _ _ e4.grow f2) (sk.mono (by decide)) bs6 ?_)));have ba:B 260 (Ma.F0 p S):=U4 sp bS;have bb:B 260 (Ma.F0 q S):=U4 sq bS;have bh:B 260 (Ma.F0 k S):=U4 sk bS;generalize Ma.F0 p S=aI at *;generalize Ma.F0 q S=bI at *;generalize Ma.F0 k S=hI at *;have g24:l7 G2 G4:=g3.trans g4;have hpF4:Paired (λv (pr:Int×Int)=>∃ t,v=.ref t/\W2 K G4 t [.int pr.1,.int pr.2]) fv prs:=ko g24 hpF2;have lF4:C9 K H4 LF fv:=e4.sub.seq (g24.seq (e2.grow.seq hLF));obtain⟨pr0,prs,rfl⟩:∃ pr0 r',prs=pr0::r':=by
    cases prs with
    |nil=>simp at hz7
    |cons a b=>exact P9 a b rfl
   obtain⟨x0,fv,rfl,tF,rfl,hF0⟩:∃ v0 r',fv=v0::r'/\∃ t,v0=.ref t/\W2 K G4 t [.int pr0.1,.int pr0.2]:=by cases hpF4 with|cons h t=>exact J0 _ _ rfl h
   have hF0':=e4.sub.seqT hF0;have hTA4:=e4.sub.seqT (g24.seqT hTA);obtain⟨_,bp0⟩:=hpB pr0 (List.mem_cons_self ..);have c2:=bS.mul bS;have c3:=c2.mul bS;have c4:=bp0.mul c3;have k2:B 2 2:=by unfold Ma.B;decide
   have c5:=c4.mul k2;have c6:=c5.mul bC;refine a0 _ rfl (j5 LF _ _ _ rfl rfl lF4 (bH (j:=0) rfl rfl) (j5 tF _ _ _ rfl rfl hF0' rfl (a0 _ rfl (a0 _ rfl (i3 _ _ rfl rfl ⟨bS.mono (by decide),bS.mono (by decide)⟩ (a0 _ rfl (i3 _ _ rfl rfl ⟨c2.mono (by decide),bS.mono (by decide)⟩ (i3 _ _ rfl rfl ⟨bp0.mono (by decide),c3.mono (by decide)⟩ (i3 _ _ rfl rfl ⟨c4.mono (by decide),k2.mono (by decide)⟩ (a0 _ rfl (j5 TA _ _ _ rfl rfl hTA4 rfl (i3 _ _ rfl rfl ⟨c5.mono (by decide),bC.mono (by decide)⟩ ?_))))))))))));have lD4:C9 K G4 D (((pr0::prs).map Prod.fst).map V.int):=by
    rw[List.map_map];exact .of (g4 _ _ gD)
   have h5:5<=((pr0::prs).map Prod.fst).length:=by rw[List.length_map,hz7];decide
   have hsB:∀ x∈(pr0::prs).map Prod.fst,B 400000 x:=by
    intro x hx;obtain⟨pr,hpr,rfl⟩:=List.mem_map.mp hx;exact(hpB pr hpr).1
   refine a0 _ rfl (a0 _ rfl (a0 _ rfl (a0 _ rfl (p9 G4 D ((pr0::prs).map Prod.fst) aI bI (P9 hI 260 ⟨rfl,e4.sub,lD4,h5,hsB,ba,bb,bh,(by decide),λbX=>?_⟩)))));refine a0 _ rfl (j5 TA _ _ _ rfl rfl hTA4 rfl (i3 _ _ rfl rfl ⟨bX.mono (by decide),bN.mono (by decide)⟩ (g9 _ rfl (by show 2<=sizeLine;decide) (λT1 hT1=>?_))));have e5:=e4.lay hT1 (o:=.tup [.int (Ma.N8 ((pr0::prs).map Prod.fst) aI bI hI*N),.int (pr0.2*(S*S*S)*2*c)]);have g5:=P2 (o:=.tup [.int (Ma.N8 ((pr0::prs).map Prod.fst) aI bI hI*N),.int (pr0.2*(S*S*S)*2*c)]) (e4.sub.free hT1);have gT1:(i8 G4 T1 (.tup [.int (Ma.N8 ((pr0::prs).map Prod.fst) aI bI hI*N),.int (pr0.2*(S*S*S)*2*c)])) T1=some (.tup [.int (Ma.N8 ((pr0::prs).map Prod.fst) aI bI hI*N),.int (pr0.2*(S*S*S)*2*c)]):=c9;generalize i8 G4 T1 (.tup [.int (Ma.N8 ((pr0::prs).map Prod.fst) aI bI hI*N),.int (pr0.2*(S*S*S)*2*c)])=G5 at e5 g5 gT1;generalize i8 H4 T1 (.tup [.int (Ma.N8 ((pr0::prs).map Prod.fst) aI bI hI*N),.int (pr0.2*(S*S*S)*2*c)])=H5 at e5;refine a0 _ rfl (a0 _ rfl (a0 _ rfl (a0 _ rfl (p9 G5 D ((pr0::prs).map Prod.fst) aI bI (P9 hI 260 ⟨rfl,e5.sub,g5.seq lD4,h5,hsB,ba,bb,bh,(by decide),λbY=>?_⟩)))));refine a0 _ rfl (j5 TA _ _ _ rfl rfl (e5.sub.seqT (g5.seqT (g24.seqT hTA))) rfl (i3 _ _ rfl rfl ⟨bY.mono (by decide),bN.mono (by decide)⟩ (g9 _ rfl (by show 2<=sizeLine;decide) (λT2 hT2=>?_))));have e6:=e5.lay hT2 (o:=.tup [.int (Ma.V0 ((pr0::prs).map Prod.fst) aI bI hI*N),.int (pr0.2*(S*S*S)*2*c)]);have g6:=P2 (o:=.tup [.int (Ma.V0 ((pr0::prs).map Prod.fst) aI bI hI*N),.int (pr0.2*(S*S*S)*2*c)]) (e5.sub.free hT2);have gT2:(i8 G5 T2 (.tup [.int (Ma.V0 ((pr0::prs).map Prod.fst) aI bI hI*N),.int (pr0.2*(S*S*S)*2*c)])) T2=some (.tup [.int (Ma.V0 ((pr0::prs).map Prod.fst) aI bI hI*N),.int (pr0.2*(S*S*S)*2*c)]):=c9;generalize i8 G5 T2 (.tup [.int (Ma.V0 ((pr0::prs).map Prod.fst) aI bI hI*N),.int (pr0.2*(S*S*S)*2*c)])=G6 at e6 g6 gT2;generalize i8 H5 T2 (.tup [.int (Ma.V0 ((pr0::prs).map Prod.fst) aI bI hI*N),.int (pr0.2*(S*S*S)*2*c)])=H6 at e6;refine⟨(by show 2<=sizeLine;decide),λl hl=>?_⟩;have e7:=e6.lay hl (o:=.lst [.ref T1,.ref T2]);have g7:=P2 (o:=.lst [.ref T1,.ref T2]) (e6.sub.free hl);exact kk _ _ _ e7 (h9 l ([.ref T1,.ref T2]) rfl (.of c9) (.cons (a0 T1 rfl (.of (g7 _ _ (g6 _ _ gT1)))) (.cons (a0 T2 rfl (.of (g7 _ _ gT2))) .nil)))
open Ln (Near Sums)
noncomputable def zf (ts:List C0)(qs:List Rat):Except Bool (List (Int×Int)):=match qs with
 |[y,v,z,u,p,q,k]=>match ui ts y v z u p q k with
  |some prs=>.ok prs
  |none=>.error false
 |_=>.ok []
theorem BZ (ts:List C0)(qs:List Rat)(prs:List (Int×Int))(h:zf ts qs=.ok prs):(∀ pr∈prs,pr.2≠0)/\prs.length<=100:=by
 unfold zf at h;split at h
 ·rename_i y v z u p q k
  split at h
  ·rename_i prs' ho
   cases h;unfold ui at ho;cases hS:Ma.bB ts y v z u with
   |none=>rw[hS]at ho;cases ho
   |some tot =>
    rw[hS]at ho;dsimp only at ho;by_cases hc:Ma.ae ts y v (Ma.B6 ts [y,v,z,u])=0
    ·rw[if_pos hc]at ho;cases ho
    ·rw[if_neg hc]at ho;have ho:=Option.some.inj ho;have hz7:=qT hS;have hb:=(AA (N:=Ma.B6 ts [y,v,z,u]) (s:=((Ma.z7 ts:Nat):Int)) (Int.ne_of_gt (Ma.jk _ _)) (by have:=Ma.dX ts;omega) tot).1;generalize tot.zip (Ma.R8 (Ma.B6 ts [y,v,z,u]) (Ma.z7 ts))=P at *;have hs:=oN p q k;have hS0:((di p q k:Nat):Int)≠0:=by omega
     generalize((di p q k:Nat):Int)=S at *;have hP0:(P.getD 0 (0,1)).2≠0:=by
      cases P with
      |nil=>simp at hz7
      |cons a b=>exact hb a (List.mem_cons_self ..)
     have hall:(P.getD 0 (0,1)).2*(S*S*S)*2*Ma.ae ts y v (Ma.B6 ts [y,v,z,u])≠0:=Int.mul_ne_zero (Int.mul_ne_zero (Int.mul_ne_zero hP0 (Int.mul_ne_zero (Int.mul_ne_zero hS0 hS0) hS0)) (by decide)) hc;rw[<-ho];refine⟨λpr hpr=>?_,by show 2<=100;decide⟩;unfold Ma.DK at hpr;simp only[List.mem_cons,List.not_mem_nil,or_false]at hpr;rcases hpr with h|h<;>rw[h]<;>exact hall
  ·cases h
 ·cases h;exact⟨λpr hpr=>(nomatch hpr),by decide⟩
def yO (Pt:Addr)(K:W.Frag):Sp:=λvs H Q _=>∃ (G:Hp) (line:Nat) (a y v z u p q k:V) (b by_ bv bz bu bp bq bk:Bytes) (out:List Int),vs=[.int (line:Int),a,y,v,z,u,p,q,k]/\H Pt=some (.tbl #[])/\G Pt=none/\l7 G H/\Bs K G a b/\Bs K G y by_/\Bs K G v bv/\Bs K G z bz/\Bs K G u bu/\Bs K G p bp/\Bs K G q bq/\Bs K G k bk /\
 ((∀ s,line<=2->b.length<=65536->R9 [by_,bv,bz,bu,bp,bq,bk]≠none->Ln.Text.read b=.ok s->Ma.cI s.glasses)->gP line b [by_,bv,bz,bu,bp,bq,bk] zf=out)/\∀ x H',(∃ l,x=.ref l/\H' l=some (.lst (out.map V.int)))->Q x H'
theorem BQ:i6 ["stations","given"] ["stations","given"] (oO gn):=⟨rfl,rfl,rfl,by decide +kernel,rfl,by decide +kernel,by decide +kernel⟩
theorem AW:i6 ["line","t","y","v","z","w","p","q","h","texts"] ["line","t","y","v","z","w","p","q","h"] (d8 gn):=⟨rfl,rfl,rfl,by decide +kernel,rfl,by decide +kernel,by decide +kernel⟩
theorem Ax {fl cl:Addr}{qual:Str}{pm ctv:Value}(Dz:B8 prog w K mg base 7 "offsets" ["stations","rays","turns"] (wg K CT CP)):EE prog w K mg base 14 fl (λH=>H fl=some (EG fl (W.kla_obj "<lambda>" qual (zX gn) (zW gn) (oO gn) [] pm cl ctv))/\H cl=some (EH cl qual)) (EY K CT CO CP 7 zf):=by
 refine(Ay (k:=7) BQ (λvs H Q E h=>?_) (λus hl=>match us,hl with|[_,_],_=>rfl) (λA outer s H vs Q E hr h=>?_)).mono (by decide)
 ·obtain⟨G,a,r,ts,qs,rfl,_⟩:=h;rfl
 ·obtain⟨G,a,_,ts,qs,rfl,sm,hst,⟨LR,rs,rfl,hLR,hpR⟩,hl,hq,hsz,kk⟩:=h
  match qs,hq with
  |[y,v,z,u,p,q,k],_ =>
   refine a0 _ (d9 Dz hr d6 (c7 (pv 0) (c7 (K0 N1 (pv 1) V7 (J4 g8)) (c7 (K0 N1 (pv 1) (J4 g8) V7) d4)))) ?_;obtain⟨v0,rs,rfl,f0,hpR⟩:∃ v0 r',rs=v0::r'/\Fr K G v0 y/\Paired (Fr K G) r' [v,z,u,p,q,k]:=by cases hpR with|cons h t=>exact h9 _ _ rfl h t
   obtain⟨v1,rs,rfl,f1,hpR⟩:∃ v0 r',rs=v0::r'/\Fr K G v0 v/\Paired (Fr K G) r' [z,u,p,q,k]:=by cases hpR with|cons h t=>exact h9 _ _ rfl h t
   obtain⟨v2,rs,rfl,f2,hpR⟩:∃ v0 r',rs=v0::r'/\Fr K G v0 z/\Paired (Fr K G) r' [u,p,q,k]:=by cases hpR with|cons h t=>exact h9 _ _ rfl h t
   obtain⟨v3,rs,rfl,f3,hpR⟩:∃ v0 r',rs=v0::r'/\Fr K G v0 u/\Paired (Fr K G) r' [p,q,k]:=by cases hpR with|cons h t=>exact h9 _ _ rfl h t
   obtain⟨v4,rs,rfl,f4,hpR⟩:∃ v0 r',rs=v0::r'/\Fr K G v0 p/\Paired (Fr K G) r' [q,k]:=by cases hpR with|cons h t=>exact h9 _ _ rfl h t
   obtain⟨v5,rs,rfl,f5,hpR⟩:∃ v0 r',rs=v0::r'/\Fr K G v0 q/\Paired (Fr K G) r' [k]:=by cases hpR with|cons h t=>exact h9 _ _ rfl h t
   obtain⟨v6,rs,rfl,f6,hpR⟩:∃ v0 r',rs=v0::r'/\Fr K G v0 k/\Paired (Fr K G) r' []:=by cases hpR with|cons h t=>exact h9 _ _ rfl h t
   cases hpR;refine a0 _ rfl (a0 _ rfl (a0 _ rfl (h9 LR _ rfl (sm.seq hLR) (λp1 hp1=>?_))));have e1:j6 [] G H (i8 G p1 (.lst [v0,v1,v2,v3])) (i8 H p1 (.lst [v0,v1,v2,v3])):=(j6.refl sm).lay hp1 (o:=.lst [v0,v1,v2,v3]);have g1:=e1.grow;refine a0 _ rfl (a0 _ rfl (h9 LR _ rfl (e1.sub.seq (g1.seq hLR)) (λp2 hp2=>?_)));have e2:j6 [] G H (i8 (i8 G p1 (.lst [v0,v1,v2,v3])) p2 (.lst [v4,v5,v6])) (i8 (i8 H p1 (.lst [v0,v1,v2,v3])) p2 (.lst [v4,v5,v6])):=e1.lay hp2 (o:=.lst [v4,v5,v6]);have g2:=e2.grow;have n12:p1≠p2:=j3 (show(i8 H p1 (.lst [v0,v1,v2,v3])) p1=some (.lst [v0,v1,v2,v3]) from c9) hp2;refine p9 (i8 (i8 G p1 (.lst [v0,v1,v2,v3])) p2 (.lst [v4,v5,v6])) a (.ref p1) (.ref p2) ts (p9 y v z u p (P9 q k ⟨rfl,e2.sub,?_,(h9 p1 _ rfl (.of (by rw[i0 n12];exact c9)) (.cons (Fr.mono _ _ _ _ g2 f0) (.cons (Fr.mono _ _ _ _ g2 f1) (.cons (Fr.mono _ _ _ _ g2 f2) (.cons (Fr.mono _ _ _ _ g2 f3) .nil))))),(h9 p2 _ rfl (.of c9) (.cons (Fr.mono _ _ _ _ g2 f4) (.cons (Fr.mono _ _ _ _ g2 f5) (.cons (Fr.mono _ _ _ _ g2 f6) .nil)))),λx hx=>hsz x (show x∈[y,v,z,u]++[p,q,k] from List.mem_append_left _ hx),λx hx=>hsz x (show x∈[y,v,z,u]++[p,q,k] from List.mem_append_right _ hx),hl,?_⟩))
   ·obtain⟨LS,ss,rfl,hLS,hpS⟩:=hst;exact h9 LS ss rfl (g2 _ _ hLS) (Paired.map' (λ_ _ h=>h.mono g2) hpS)
   unfold zf at kk;dsimp only at kk;cases hS:ui ts y v z u p q k with
   |none=>rw[hS]at kk;exact kk
   |some prs=>rw[hS]at kk;exact λx G' H' e6 hp=>kk x G' H' (e2.trans e6) hp
theorem Fw {f cm Pt:Addr}{fd:FuncData}(F:AJ K "off" "off" gn f fd cm)(hC:mn K cm Pt=true)(Da:B8 prog w K mg base 15 "answered" ["line","t","texts","reckon"] (AU w K mg base 14 CT CO CP))(Dz:B8 prog w K mg base 7 "offsets" ["stations","rays","turns"] (wg K CT CP)) :
  o8 prog w K mg base (A7 prog w) 16 f fd ["line","t","y","v","z","w","p","q","h"] (yO Pt K):=by
 refine F.okX AW (λvs H Q E h=>?_) (λA outer s H vs Q E hr h=>?_)
 ·obtain⟨G,line,a,y,v,z,u,p,q,k,b,by_,bv,bz,bu,bp,bq,bk,out,rfl,_⟩:=h;rfl
 ·obtain⟨G,line,a,y,v,z,u,p,q,k,b,by_,bv,bz,bu,bp,bq,bk,out,rfl,hT,hG,sm,ha,hy,hv,hz,hu,hp,hq,hk,ho,kk⟩:=h;refine a0 _ (c8 (i7 (i:=9) AW.nd rfl (Or.inl rfl) (C5 (c7 (pv 2) (c7 (pv 3) (c7 (pv 4) (c7 (pv 5) (c7 (pv 6) (c7 (pv 7) (c7 (pv 8) d4)))))))))
   (d7 (j1 (d9 Da hr d6 (c7 (pv 0) (c7 (pv 1) (c7 (pv 9) (c7 (Cf (clos:=[]) rfl rfl rfl hC) d4)))))))) ?_
  refine a0 _ rfl (a0 _ rfl (a0 _ rfl (a0 _ rfl (a0 _ rfl (a0 _ rfl (g9 _ rfl (by show 7<=sizeLine;decide) (λl hl=>?_)))))));have nlP:Pt≠l:=j3 hT hl;refine a0 _ rfl (a0 _ rfl (a0 _ rfl (M9 (#[]) (by rw[i0 nlP];exact hT) trivial rfl (λfl cl pm ctv hf hc nfc=>?_))));have e1:j6 [] G H (i8 G l (.lst [y,v,z,u,p,q,k])) (i8 H l (.lst [y,v,z,u,p,q,k])):=(j6.refl sm).lay hl (o:=.lst [y,v,z,u,p,q,k]);have g1:=e1.grow;have s1:=e1.sub;have h1P:(i8 G l (.lst [y,v,z,u,p,q,k])) Pt=none:=by rw[i0 nlP];exact hG
  have h1l:(i8 G l (.lst [y,v,z,u,p,q,k])) l=some (.lst [y,v,z,u,p,q,k]):=c9;have h2P:(i8 H l (.lst [y,v,z,u,p,q,k])) Pt=some (.tbl #[]):=by rw[i0 nlP];exact hT
  generalize i8 G l (.lst [y,v,z,u,p,q,k])=G1 at *;generalize i8 H l (.lst [y,v,z,u,p,q,k])=H1 at *;have nPf:Pt≠fl:=j3 h2P hf;have nPc:Pt≠cl:=j3 h2P hc;have m:=λ(x:V) (c:Bytes) (h:Bs K G x c)=>Bs.mono _ _ _ _ g1 h;refine p9 G1 line a (.ref l) b (p9 ([by_,bv,bz,bu,bp,bq,bk]) fl _ zf out ⟨rfl,λp o e=>?_,m _ _ ha,(h9 l _ rfl (.of h1l) (.cons (m _ _ hy) (.cons (m _ _ hv) (.cons (m _ _ hz) (.cons (m _ _ hu) (.cons (m _ _ hp) (.cons (m _ _ hq) (.cons (m _ _ hk) .nil)))))))),(by show 7<=10;decide),Ax (qual:=("off" : Str)++".<locals>."++"<lambda>") (pm:=pm) (ctv:=ctv) (cl:=cl) Dz,λG' H' e=>⟨e.same _ _ ?_,e.same _ _ ?_⟩,BZ,ho,kk⟩)
  ·have nP:p≠Pt:=λz=>by rw[z,h1P]at e;cases e
   have e2:=s1 _ _ e;rw[i0 (j3 e2 hf),i0 (j3 e2 hc),i0 nP];exact e2
  ·exact c9
  ·rw[i0 (λz=>nfc z.symm)];exact c9
theorem vJ (l:List Rat):(if l.all tellable then Ma.M3 l else[-6])=Ma.M3 l:=by
 cases h:l.all tellable with
 |true=>rfl
 |false=>unfold Ma.M3;rw[h];rfl
theorem lW {p q k x:Rat}(h:x∈[p,q,k]):(Ma.F0 x ((di p q k:Nat):Int):Rat)=(((di p q k:Nat):Int):Rat)*x:=by
 have hd:(x.den:Int)∣((di p q k:Nat):Int):=by
  refine Int.natCast_dvd_natCast.mpr (Ma.jm ?_);simp only[List.mem_cons,List.not_mem_nil,or_false]at h⊢;rcases h with h|h|h<;>simp[h]
 rw[Ma.ku hd,Rat.mul_comm]
theorem zL {line:Nat}{t a b c d bp bq bk:Bytes}(hg:∀ s,line<=2->t.length<=65536->R9 [a,b,c,d,bp,bq,bk]≠none->Ln.Text.read t=.ok s->Ma.cI s.glasses) :
  gP line t [a,b,c,d,bp,bq,bk] zf=LensDNeutral.shown (LensD.answer (.off t line ⟨a,b,c,d⟩ bp bq bk)):=by
 have e:∀ x,LensD.numOf x=Ma.z6 x:=λx=>Ma.uG x;have none_case:∀ x∈[a,b,c,d,bp,bq,bk],Ma.z6 x=none->gP line t [a,b,c,d,bp,bq,bk] zf=[-1]:=λx hx h=>by
  unfold gP;rw[dg hx h];by_cases hb:2<line\/65536<t.length
  ·rw[if_pos hb]
  ·rw[if_neg hb]
 show _=LensDNeutral.shown (match LensD.numOf bp,LensD.numOf bq,LensD.numOf bk with
  |some a',some b',some k=>LensD.withRays t line ⟨a,b,c,d⟩ λs m c=>match Ln.sumsOf s line m c with
   |none=>LensD.number (-5)
   |some x =>
    let v:=((Ln.matAll s line).on m).v
    if v=0 then LensD.number (-5)else LensD.gives [Ln.offX x a' b' k/(2*v),Ln.offY x a' b' k/(2*v)]
  |_,_,_=>LensD.number (-1))
 unfold LensD.withRays LensD.raysOf;simp only[e];cases hp:Ma.z6 bp with
 |none=>exact none_case bp (by simp) hp
 |some p =>
 cases hq:Ma.z6 bq with
 |none=>exact none_case bq (by simp) hq
 |some q =>
 cases hk:Ma.z6 bk with
 |none=>exact none_case bk (by simp) hk
 |some k =>
 cases ha:Ma.z6 a with
 |none=>exact none_case a (by simp) ha
 |some y =>
 cases hb:Ma.z6 b with
 |none=>exact none_case b (by simp) hb
 |some v =>
 cases hc:Ma.z6 c with
 |none=>exact none_case c (by simp) hc
 |some z =>
 cases hd:Ma.z6 d with
 |none=>exact none_case d (by simp) hd
 |some u =>
  have hQ:R9 [a,b,c,d,bp,bq,bk]=some [y,v,z,u,p,q,k]:=by
   simp only[R9,ha,hb,hc,hd,hp,hq,hk]
  dsimp only;unfold gP;rw[hQ];by_cases hl:Ln.LINES<=line
  ·rw[if_pos hl,if_pos (Or.inl (show 2<line from hl))];rfl
  ·rw[if_neg hl];have hl2:line<=2:=by have:¬ 3<=line:=hl;omega
   unfold LensD.withSystem;by_cases ht:65536<t.length
   ·rw[if_pos (Or.inr ht),if_pos (show LensD.BYTES<t.length from ht)];rfl
   ·rw[if_neg (show ¬ LensD.BYTES<t.length from ht),if_neg (by omega)];cases hrd:Ln.Text.read t with
    |error er=>rfl
    |ok sy =>
     dsimp only;have hG:=hg sy hl2 (by omega) (by rw[hQ];simp) hrd;have hn:=Ma.oV hG line;rw[Ma.tJ sy line _ _ hn,Ma.oq sy line hn];have hs:=Ma.nr (Ma.bV sy line) y v z u;have hc:=Ma.xG (Ma.bV sy line) [y,v,z,u] y v (by simp) (by simp);have hNp:=Ma.jk (Ma.bV sy line) [y,v,z,u];have hcm:=Ma.dX (Ma.bV sy line);unfold zf ui;dsimp only;generalize Ma.bV sy line=ts at *;cases hI:Ma.bB ts y v z u with
     |none =>
      rw[hI]at hs;cases hS:Ma.bA ts ⟨y,v⟩ ⟨z,u⟩ Ln.Sums.none with
      |none=>rfl
      |some x=>rw[hS]at hs;cases hs
     |some tot =>
      rw[hI]at hs;cases hS:Ma.bA ts ⟨y,v⟩ ⟨z,u⟩ Ln.Sums.none with
      |none=>rw[hS]at hs;cases hs
      |some x =>
       rw[hS]at hs;have hs:Ma.w9 (tot.zip (Ma.R8 (Ma.B6 ts [y,v,z,u]) (Ma.z7 ts)))=Ma.S7 x:=Option.some.inj hs;dsimp only;generalize Ma.B6 ts [y,v,z,u]=N at *;generalize hC:Ma.ae ts y v N=cc at *;generalize hV:(Ma.bE ts ⟨y,v⟩).v=V at *;have hN0:(N:Rat)≠0:=λz=>by
        have:N=0:=by exact_mod_cast z
        omega
       by_cases h0:cc=0
       ·have hV0:V=0:=by
         rw[h0]at hc;have hc:(0:Rat)=(N:Rat)*V:=hc;rcases Rat.mul_eq_zero.mp hc.symm with z|z
         ·exact(hN0 z).elim
         ·exact z
        rw[if_pos h0,if_pos hV0];rfl
       ·have hV0:¬ V=0:=λz=>by
         rw[z,Rat.mul_zero]at hc;exact h0 (by exact_mod_cast hc)
        rw[if_neg h0,if_neg hV0];have key:=Ma.DJ (tot:=tot) (N:=N) (cm:=((Ma.z7 ts:Nat):Int)) (c:=cc) (S:=((di p q k:Nat):Int)) (x:=x) (V:=V) hN0 (by
          intro z;have:((Ma.z7 ts:Nat):Int)=0:=by exact_mod_cast z
          omega) (by
          intro z;have:((di p q k:Nat):Int)=0:=by exact_mod_cast z
          have:=oN p q k;omega) hV0 hs hc (lW (x:=p) (by simp)) (lW (x:=q) (by simp)) (lW (x:=k) (by simp))
        dsimp only;rw[key,Ma.ya,vJ]
theorem BX {Pt:Addr}{K:W.Frag}{H:Hp}{xs:List V}{E:XK}(a:Codec.denoteAll PySem.Challenge.rw_thirdsums_s04_off.args)(hP:H Pt=some (.tbl #[]))(hwi:Codec.withinAll PySem.Challenge.rw_thirdsums_s04_off.args a=true)
  (hx:DwAll K H xs (Codec.encAll PySem.Challenge.rw_thirdsums_s04_off.args a)) :
  yO Pt K xs H (λv H'=>Dw K H' v (PySem.Challenge.rw_thirdsums_s04_off.ret.enc (Codec.app PySem.Challenge.rw_thirdsums_s04_off.args PySem.Challenge.rw_thirdsums_s04_off.f a))) E:=by
 obtain⟨line,t,y,v,z,u,p,q,k,_⟩:=a;have hw:(Codec.inPair (Codec.int (Int.ofNat 0) (Int.ofNat 4294967295)).within (Codec.inPair (Codec.list 0 70000 (Codec.int (Int.ofNat 0) (Int.ofNat 255))).within (Codec.inPair (Codec.list 0 1000 (Codec.int (Int.ofNat 0) (Int.ofNat 255))).within (Codec.inPair (Codec.list 0 1000 (Codec.int (Int.ofNat 0) (Int.ofNat 255))).within (Codec.inPair (Codec.list 0 1000 (Codec.int (Int.ofNat 0) (Int.ofNat 255))).within (Codec.inPair (Codec.list 0 1000 (Codec.int (Int.ofNat 0) (Int.ofNat 255))).within (Codec.inPair (Codec.list 0 1000 (Codec.int (Int.ofNat 0) (Int.ofNat 255))).within (Codec.inPair (Codec.list 0 1000 (Codec.int (Int.ofNat 0) (Int.ofNat 255))).within (Codec.inPair (Codec.list 0 1000 (Codec.int (Int.ofNat 0) (Int.ofNat 255))).within (λ_=>true)))))))))) (line,t,y,v,z,u,p,q,k,())=true:=hwi;simp only[Codec.inPair,Bool.and_eq_true]at hw;obtain⟨w0,w1,w2,w3,w4,w5,w6,w7,w8,_⟩:=hw;have hx:DwAll K H xs [WData.int line,WData.list (t.map WData.int),WData.list (y.map WData.int),WData.list (v.map WData.int),WData.list (z.map WData.int),WData.list (u.map WData.int),WData.list (p.map WData.int),WData.list (q.map WData.int),WData.list (k.map WData.int)]:=hx;have p0:0<=line:=by
  have w:Codec.inInt (Int.ofNat 0) (Int.ofNat 4294967295) line=true:=w0;simp only[Codec.inInt,Bool.and_eq_true,decide_eq_true_eq]at w;simpa using w.1
 cases hx with
 |cons h0 hx =>
 cases hx with
 |cons h1 hx =>
 cases hx with
 |cons h2 hx =>
 cases hx with
 |cons h3 hx =>
 cases hx with
 |cons h4 hx =>
 cases hx with
 |cons h5 hx =>
 cases hx with
 |cons h6 hx =>
 cases hx with
 |cons h7 hx =>
 cases hx with
 |cons h8 hx =>
 cases hx;cases h0;refine p9 (lX H Pt) line.toNat _ _ _ (p9 _ _ _ _ _ (p9 (LensDNeutral.text t) (LensDNeutral.text y) (LensDNeutral.text v) (LensDNeutral.text z) (LensDNeutral.text u) (O0 (LensDNeutral.text p) (LensDNeutral.text q) (LensDNeutral.text k) (PyWqbbbo.off line t y v z u p q k) ⟨?_,hP,zM,uj,P8 hP (P6 w1) h1,P8 hP (P6 w2) h2,P8 hP (P6 w3) h3,P8 hP (P6 w4) h4,P8 hP (P6 w5) h5,P8 hP (P6 w6) h6,P8 hP (P6 w7) h7,P8 hP (P6 w8) h8,λhg=>(zL hg).trans ?_,?_⟩)))
 ·rw[Int.toNat_of_nonneg p0]
 ·rfl
 ·rintro x H' ⟨l,rfl,hl⟩;show Dw K H' (.ref l) (.list ((PyWqbbbo.off line t y v z u p q k).map WData.int));exact .lst (.of hl) (sJ _)
theorem FE {P:Program}:∀ (w:World) (H:Hp) (s:Shared) (e:Value) (s':Shared),A7 P w [] H s (λ_ _ _=>False) e s'->False:=λ_ _ _ _ _ ⟨_,_,_,_,_,_,_,_,_,_,h⟩=>h
section
variable {w:World}{K:W.Frag}{mg:Str->Option Value}{base h:Heap}
def Fn (K:W.Frag)(mg:Str->Option Value)(x:Str)(st:Stmt):Prop:=∃ f fd,F1 K x x st f fd/\mg x=some (.ref f)
theorem FQ {x:Str}{st:Stmt}{f:Addr}{oc:Value}{od an:Option Addr}{osl:Array (Option Value)}{kV doc pm cdv ct:Value}(X:K.In h)(G:h.Ns mainGlobals mg)(a:W.nsIn K mainGlobals x=some (some (.ref f)))
  (l:K.lookup f=some ⟨oc,od,.func (W.fnOf x x (L8 st) (F5 st) (d8 st) .none kV doc pm an cdv ct),osl⟩) (c:W.codeIn K cdv x=true) (k:W.keepIn K (.ref f)=true):Fn K mg x st :=
 (J0 f _ (qD l c k) (W.mg_of X G a))
theorem FP {x:Str}{i:Int}{t:PySem.Tok}(X:K.In h)(G:h.Ns mainGlobals mg)(a:W.nsIn K mainGlobals x=some (some (.int i t))):GI mg x i:=(l9 t (W.mg_of X G a))
theorem FO {x y:Str}{t:PySem.Tok}(X:K.In h)(G:h.Ns mainGlobals mg)(a:W.nsIn K mainGlobals x=some (some (.str y t))):GS mg x y:=(l9 t (W.mg_of X G a))
theorem ni:∀ {us:List Value}{xs:List V},us.map Ew=xs.map some->x9 xs us
 |[],[],_=>.nil
 |[],_::_,e=>nomatch e
 |_::_,[],e=>nomatch e
 |u::us,x::xs,e=>by
  injection e with e1 e2;refine .cons ?_ (ni e2);cases u<;>cases e1<;>first|rfl|exact l9 _ rfl
theorem FN {x:Str}{xs:List V}{a:Addr}{od:Option Addr}{its:Array Value}{n:Nat}{sl:Array (Option Value)}(X:K.In h)(G:h.Ns mainGlobals mg)(m:W.nsIn K mainGlobals x=some (some (.ref a)))(l:K.lookup a=some ⟨.type "tuple",od,.seq its n,sl⟩)
  (e:its.toList.map Ew=xs.map some) (hz:its.toList.length<=sizeLine):GT K mg x xs :=
 (a0 a (W.mg_of X G m) (λH=>.inr (z8 _ its n l rfl rfl (by simpa using hz) (ni e))))
structure kY (K:W.Frag)(mg:Str->Option Value)(x:Str)(C:Addr):Prop where
 m:mg x=some (.ref C)
 cl:kZ K C
 mks:W.makesIn K C=true
 kp:W.keepIn K (.ref C)=true
theorem mG {x:Str}{C:Addr}(X:K.In h)(G:h.Ns mainGlobals mg)(a:W.nsIn K mainGlobals x=some (some (.ref C)))(pg:W.plainGet K C Str.empty=true)(hd:W.hasDictIn K C=true)(po:W.plainOver K C=true)
  (sa:W.findIn K (.ref C) "__setattr__"=some (some (.builtin "object.__setattr__"))) (mk:W.makesIn K C=true) (kp:W.keepIn K (.ref C)=true):kY K mg x C:=⟨W.mg_of X G a,⟨pg,hd,po,sa⟩,mk,kp⟩
def qQ (K:W.Frag)(C:Addr)(m qual:Str)(st:Stmt):Prop:=∃ f fd,F1 K m qual st f fd/\uS K C m f
theorem Y3 {C:Addr}{m qual:Str}{st:Stmt}{f:Addr}{oc:Value}{od an:Option Addr}{osl:Array (Option Value)}{kV doc pm cdv ct:Value}(a:W.findIn K (.ref C) m=some (some (.ref f)))(i:W.isFn K (.ref f)=true)
  (l:K.lookup f=some ⟨oc,od,.func (W.fnOf m qual (L8 st) (F5 st) (d8 st) .none kV doc pm an cdv ct),osl⟩) (c:W.codeIn K cdv qual=true) (k:W.keepIn K (.ref f)=true):qQ K C m qual st :=
 (J0 f _ (qD l c k) ⟨a,i,k⟩)
structure fz (K:W.Frag)(mg:Str->Option Value)(x:Str)(C:Addr):Prop where
 m:mg x=some (.ref C)
 e:W.excIn K C [.type "Exception",.type "BaseException",.type "object"] "Exception.__new__"=true
 c:fC K C=true
theorem mw {x:Str}{C:Addr}(X:K.In h)(G:h.Ns mainGlobals mg)(a:W.nsIn K mainGlobals x=some (some (.ref C)))(e:W.excIn K C [.type "Exception",.type "BaseException",.type "object"] "Exception.__new__"=true)(c:fC K C=true):fz K mg x C:=⟨W.mg_of X G a,e,c⟩
theorem fz.xc {x:Str}{C:Addr}(h:fz K mg x C):XC K mg x C:=⟨h.m,⟨h.e⟩⟩
theorem fz.xh {x:Str}{C:Addr}(h:fz K mg x C):XH K mg x C:=⟨h.m,h.c⟩
noncomputable def fD:List Str:=["__setattr__","__getattribute__","__getattr__","place","kind"]
structure Bu (K:W.Frag)(mg:Str->Option Value)(C:Addr):Prop where
 m:mg "Fault"=some (.ref C)
 kp:W.keepIn K (.ref C)=true
 c:fC K C=true
 ex:∃ f fd,F1 K "__init__" "Fault.__init__" K7 f fd/\mP K C f fD
theorem Eh {C f:Addr}{oc:Value}{od an:Option Addr}{osl:Array (Option Value)}{kV doc pm cdv ct:Value}(X:K.In h)(G:h.Ns mainGlobals mg)(a:W.nsIn K mainGlobals "Fault"=some (some (.ref C)))(kp:W.keepIn K (.ref C)=true)(i:W.findIn K (.ref C) "__init__"=some (some (.ref f)))(j:W.isFn K (.ref f)=true)
  (l:K.lookup f=some ⟨oc,od,.func (W.fnOf "__init__" "Fault.__init__" (L8 K7) (F5 K7) (d8 K7) .none kV doc pm an cdv ct),osl⟩) (cc:W.codeIn K cdv "Fault.__init__"=true) (k:W.keepIn K (.ref f)=true)
  (c:fC K C=true) (z:qW K C f fD=true):Bu K mg C :=
 ⟨W.mg_of X G a,kp,c,J0 f _ (qD l cc k) ⟨z,by decide +kernel,by decide +kernel,by decide +kernel,j⟩⟩
def HG (K:W.Frag)(mg:Str->Option Value):Prop:=∃ CN CF CO CP CL:Addr,fz K mg "NotTaken" CN/\Bu K mg CF/\fz K mg "NoElement" CO/\fz K mg "NotThere" CP/\fz K mg "TooLarge" CL/\[CN,CF,CO,CP,CL].Nodup
def HC (K:W.Frag)(mg:Str->Option Value):Prop:=∃ C:Addr,kY K mg "Reader" C/\t8 K C "text"/\t8 K C "token"/\qQ K C "__init__" "Reader.__init__" X7/\qQ K C "sees" "Reader.sees" X6/\qQ K C "piece" "Reader.piece" T9 /\
 qQ K C "refuse" "Reader.refuse" Q6/\qQ K C "expect" "Reader.expect" Q7/\qQ K C "step" "Reader.step" X5/\qQ K C "take" "Reader.take" X4
def HH (K:W.Frag)(mg:Str->Option Value):Prop:=∃ C:Addr,kY K mg "Element" C/\qQ K C "__init__" "Element.__init__" U0/\t8 K C "word"/\t8 K C "gap"/\t8 K C "glass"/\t8 K C "curve"/\t8 K C "conic"
def Hz (K:W.Frag)(mg:Str->Option Value):Prop:=∃ C:Addr,kY K mg "System" C/\qQ K C "__init__" "System.__init__" X3/\t8 K C "medium"/\t8 K C "path"
def HA (K:W.Frag)(mg:Str->Option Value):Prop:=∃ C:Addr,kY K mg "Station" C/\qQ K C "__init__" "Station.__init__" T8/\t8 K C "stop"/\t8 K C "walk"/\t8 K C "before"/\t8 K C "behind"/\t8 K C "square"/\t8 K C "bend"/\t8 K C "conic"/\t8 K C "colour"
theorem GN {P:List Value->Prop}(hp:P []):∀ us:List Value,us.length=0->P us:=by
 intro us e;cases us with
 |nil=>exact hp
 |cons=>cases e
theorem mI {P:List Value->Prop}{n:Nat}(hp:∀ x us,us.length=n->P (x::us)):∀ us:List Value,us.length=n+1->P us:=by
 intro us e;cases us with
 |nil=>cases e
 |cons x us=>exact hp x us (Nat.succ.inj e)
theorem U9 {P:List Value->Prop}(hp:∀ x0,P [x0]):∀ us:List Value,us.length=1->P us:=mI λx0=>GN (hp x0)
theorem L6 {P:List Value->Prop}(hp:∀ x0 x1,P [x0,x1]):∀ us:List Value,us.length=2->P us:=mI λx0=>U9 (hp x0)
theorem gO {P:List Value->Prop}(hp:∀ x0 x1 x2,P [x0,x1,x2]):∀ us:List Value,us.length=3->P us:=mI λx0=>L6 (hp x0)
theorem yp {P:List Value->Prop}(hp:∀ x0 x1 x2 x3,P [x0,x1,x2,x3]):∀ us:List Value,us.length=4->P us:=mI λx0=>gO (hp x0)
theorem FV {P:List Value->Prop}(hp:∀ x0 x1 x2 x3 x4,P [x0,x1,x2,x3,x4]):∀ us:List Value,us.length=5->P us:=mI λx0=>yp (hp x0)
theorem FU {P:List Value->Prop}(hp:∀ x0 x1 x2 x3 x4 x5,P [x0,x1,x2,x3,x4,x5]):∀ us:List Value,us.length=6->P us:=mI λx0=>FV (hp x0)
theorem GU {P:List Value->Prop}(hp:∀ x0 x1 x2 x3 x4 x5 x6,P [x0,x1,x2,x3,x4,x5,x6]):∀ us:List Value,us.length=7->P us:=mI λx0=>FU (hp x0)
theorem GR {P:List Value->Prop}(hp:∀ x0 x1 x2 x3 x4 x5 x6 x7,P [x0,x1,x2,x3,x4,x5,x6,x7]):∀ us:List Value,us.length=8->P us:=mI λx0=>GU (hp x0)
theorem GQ {P:List Value->Prop}(hp:∀ x0 x1 x2 x3 x4 x5 x6 x7 x8,P [x0,x1,x2,x3,x4,x5,x6,x7,x8]):∀ us:List Value,us.length=9->P us:=mI λx0=>GR (hp x0)
theorem Fn.def_ {x:Str}{st:Stmt}{k:Nat}{ps:List Str}{sp:Sp}(F:Fn K mg x st)(ok:∀ f fd,F1 K x x st f fd->o8 prog w K mg base (A7 prog w) k f fd ps sp)
  (b:∀ (kV doc pm:Value) (an:Option Addr) (cdv ct:Value) (us:List Value),us.length=ps.length->bindArgs (W.fnOf x x (L8 st) (F5 st) (d8 st) .none kV doc pm an cdv ct) ⟨us,[]⟩=pure (ps.zip us)):B8 prog w K mg base k x ps sp :=
 let⟨f,fd,F,m⟩:=F;⟨f,M9 fd (ok f fd F) m F.kp (F.binds b)⟩
theorem qQ.def_ {C:Addr}{m qual:Str}{st:Stmt}{k:Nat}{ps:List Str}{sp:Sp}(F:qQ K C m qual st)(ok:∀ f fd,F1 K m qual st f fd->o8 prog w K mg base (A7 prog w) k f fd ps sp)
  (b:∀ (kV doc pm:Value) (an:Option Addr) (cdv ct:Value) (us:List Value),us.length=ps.length->bindArgs (W.fnOf m qual (L8 st) (F5 st) (d8 st) .none kV doc pm an cdv ct) ⟨us,[]⟩=pure (ps.zip us)):dm prog w K mg base k C m ps sp :=
 let⟨f,fd,F,m⟩:=F;⟨f,g9 fd (ok f fd F) m (F.binds b)⟩
theorem qQ.mdl {C:Addr}{x qual:Str}{st:Stmt}{k:Nat}{ps:List Str}{sp:Sp}(F:qQ K C "__init__" qual st)(c:kY K mg x C)(ok:∀ f fd,F1 K "__init__" qual st f fd->o8 prog w K mg base (A7 prog w) k f fd ps sp)
  (b:∀ (kV doc pm:Value) (an:Option Addr) (cdv ct:Value) (us:List Value),us.length=ps.length->bindArgs (W.fnOf "__init__" qual (L8 st) (F5 st) (d8 st) .none kV doc pm an cdv ct) ⟨us,[]⟩=pure (ps.zip us)):EB prog w K mg base k C x ps sp :=
 let⟨f,fd,F,m⟩:=F;⟨c.cl,c.m,h9 f fd ⟨c.mks,m.at_,m.fn,c.kp⟩ (ok f fd F) (F.binds b)⟩
structure Bo (K:W.Frag)(mg:Str->Option Value)(x:Str)(st:Stmt)(cm Pt f:Addr)(fd:FuncData):Prop where
 m:mg x=some (.ref f)
 hd:mn K cm Pt=true
 pn:K.lookup Pt=none
 lk:∃ oc od sl,K.lookup f=some ⟨oc,od,.func fd,sl⟩/\fd.code=.ref cm
 fn:AJ K x x st f fd cm
theorem xB {x:Str}{st:Stmt}{f cm Pt:Addr}{oc:Value}{od an ocd:Option Addr}{osl csl:Array (Option Value)}{kV doc pm ct:Value}{vs:Array Value}(X:K.In h)(G:h.Ns mainGlobals mg)(a:W.nsIn K mainGlobals x=some (some (.ref f)))
  (l:K.lookup f=some ⟨oc,od,.func (W.fnOf x x (L8 st) (F5 st) (d8 st) .none kV doc pm an (.ref cm) ct),osl⟩) (c:W.codeIn K (.ref cm) x=true) (lc:K.lookup cm=some ⟨.type "code",ocd,.fields vs,csl⟩) (hv:vs[11]?=some (.ref Pt)) (pn:K.lookup Pt=none) (hd:mn K cm Pt=true) :
  ∃ fd,Bo K mg x st cm Pt f fd :=
 (l9 _ ⟨W.mg_of X G a,hd,pn,(I0 oc od osl ⟨l,rfl⟩),⟨oc,p9 od kV doc pm an (h9 ct osl rfl l c)⟩⟩)
end
structure HE (K:W.Frag)(mg:Str->Option Value):Prop where
 i_MINUS:GI mg "MINUS" 45
 i_POINT:GI mg "POINT" 46
 i_SLASH:GI mg "SLASH" 47
 i_MOST_BYTES:GI mg "MOST_BYTES" 512
 i_TOO_GREAT:GI mg "TOO_GREAT" 1000000000000000000
 i_HASH:GI mg "HASH" 35
 i_LINE_END:GI mg "LINE_END" 10
 i_MOST_NAME_BYTES:GI mg "MOST_NAME_BYTES" 32
 i_MOST_DIGITS:GI mg "MOST_DIGITS" 18
 i_MOST:GI mg "MOST" 64
 i_NO_TOKEN:GI mg "NO_TOKEN" 1
 i_CANNOT_STAND:GI mg "CANNOT_STAND" 2
 i_NAME_TAKEN:GI mg "NAME_TAKEN" 3
 i_NO_SUCH_GLASS:GI mg "NO_SUCH_GLASS" 4
 i_TOO_MANY:GI mg "TOO_MANY" 5
 i_BAD_NUMBER:GI mg "BAD_NUMBER" 6
 i_MOST_BITS:GI mg "MOST_BITS" 4096
 i_LAST_LINE:GI mg "LAST_LINE" 2
 i_MOST_TEXT_BYTES:GI mg "MOST_TEXT_BYTES" 65536
 n_abs:mg "abs"=none
 n_len:mg "len"=none
 n_ord:mg "ord"=none
 n_tuple:mg "tuple"=none
 n_str:mg "str"=none
 n_list:mg "list"=none
 n_zip:mg "zip"=none
 t_WORDS:GT K mg "WORDS" (WS.map λs=>V.str (Str.ofString s))
 t_ZERO:GT K mg "ZERO" [.int 0,.int 1]
 t_ONE:GT K mg "ONE" [.int 1,.int 1]
 s_MARKS:GS mg "MARKS" ":,;/-"
structure HF (K:W.Frag)(mg:Str->Option Value):Prop where
 f_common_divisor:Fn K mg "common_divisor" O6
 f_fraction:Fn K mg "fraction" dH
 f_negative:Fn K mg "negative" dF
 f_plus:Fn K mg "plus" qd
 f_minus:Fn K mg "minus" lP
 f_times:Fn K mg "times" lO
 f_over:Fn K mg "over" qe
 f_is_digit:Fn K mg "is_digit" dG
 f_digits_end:Fn K mg "digits_end" aV
 f_whole_value:Fn K mg "whole_value" W5
 f_pointed_value:Fn K mg "pointed_value" Q5
 f_unsigned_value:Fn K mg "unsigned_value" O4
 f_handed_over:Fn K mg "handed_over" X0
 f_begins_name:Fn K mg "begins_name" X1
 f_goes_on_name:Fn K mg "goes_on_name" T7
 f_blanks_end:Fn K mg "blanks_end" aX
 f_word_or_name:Fn K mg "word_or_name" N2
 f_name_token:Fn K mg "name_token" aS
 f_bars_number:Fn K mg "bars_number" X2
 f_number_token:Fn K mg "number_token" T5
 f_token_from:Fn K mg "token_from" aK
 f_read_pointed:Fn K mg "read_pointed" S9
 f_read_number:Fn K mg "read_number" W9
 f_read_value:Fn K mg "read_value" aL
 f_refuse_number_before:Fn K mg "refuse_number_before" F2
 f_read_index:Fn K mg "read_index" aM
 f_read_new_name:Fn K mg "read_new_name" Q4
 f_read_known_glass:Fn K mg "read_known_glass" M5
 f_read_glass:Fn K mg "read_glass" aN
 f_read_glasses:Fn K mg "read_glasses" T3
 f_read_curve:Fn K mg "read_curve" aP
 f_read_conic:Fn K mg "read_conic" aQ
 f_pass_clear:Fn K mg "pass_clear" aR
 f_read_element:Fn K mg "read_element" T4
 f_read_path:Fn K mg "read_path" cf
 f_read_system:Fn K mg "read_system" W8
 f_spread:Fn K mg "spread" iL
 f_squared:Fn K mg "squared" fR
 f_shape_station:Fn K mg "shape_station" Q3
 f_stations_of:Fn K mg "stations_of" W6
 f_exact_text:Fn K mg "exact_text" aU
 f_told:Fn K mg "told" lN
 f_refuse_sizes:Fn K mg "refuse_sizes" S8
 f_answered:Fn K mg "answered" aY
 f_length_scale:Fn K mg "length_scale" T6
 f_least_multiple:Fn K mg "least_multiple" O5
 f_station_scale:Fn K mg "station_scale" Q2
 f_on_scale:Fn K mg "on_scale" dE
 f_follow:Fn K mg "follow" iM
 f_shaped_part:Fn K mg "shaped_part" W7
 f_part_of:Fn K mg "part_of" fS
 f_meetings_of:Fn K mg "meetings_of" O8
 f_add_parts:Fn K mg "add_parts" V6
 f_as_pairs:Fn K mg "as_pairs" dI
 f_sums_of:Fn K mg "sums_of" Z3
 f_last_angle:Fn K mg "last_angle" aT
 f_across:Fn K mg "across" iN
 f_along:Fn K mg "along" lQ
 f_offsets:Fn K mg "offsets" Z4
section
variable {w:World}{K:W.Frag}{mg:Str->Option Value}{base h:Heap}
theorem vv {cm Pt f fa:Addr}{fd:FuncData}(hfa:mg "off"=some (.ref fa))(M:Bo K mg "off" gn cm Pt f fd)(G:HE K mg)(F:HF K mg)(X:HG K mg)(R:HC K mg)(El:HH K mg)(Sy:Hz K mg)(St:HA K mg) :
  ∃ (cm Pt:Addr) (fd:FuncData),mn K cm Pt=true/\K.lookup Pt=none/\(∃ oc od sl,K.lookup fa=some ⟨oc,od,.func fd,sl⟩/\fd.code=.ref cm)/\(∀ (s:Shared) (us:List Value),us.length=(["line","t","y","v","z","w","p","q","h"]:List Str).length->BindsTo s fd ⟨us,[]⟩ ((["line","t","y","v","z","w","p","q","h"]:List Str).zip us))/\∀ base:Heap,K.In base->base.Ns mainGlobals mg->o8 prog w K mg base (A7 prog w) 16 fa fd ["line","t","y","v","z","w","p","q","h"] (yO Pt K):=by
 obtain⟨CN,CF,CO,CP,CL,xN,xF,xO,xP,xL,nd⟩:=X;obtain⟨CR,cR,nR1,nR2,iR,mR1,mR2,mR3,mR4,mR5,mR6⟩:=R;obtain⟨CE,cE,iE,nE1,nE2,nE3,nE4,nE5⟩:=El;obtain⟨CS,cS,iS,nS1,nS2⟩:=Sy;obtain⟨CT,cT,iT,nT1,nT2,nT3,nT4,nT5,nT6,nT7,nT8⟩:=St;have e:=hfa.symm.trans M.m;cases e;refine⟨cm,Pt,fd,M.hd,M.pn,M.lk,λs us hu=>?_,λbase _ _=>?_⟩
 ·obtain⟨oc,od,kV,doc,pm,an,ct,osl,rfl,lk,hcd⟩:=M.fn.ex;revert us;refine GQ ?_
  intros;exact .of_eq rfl
 have tx:Tx K mg:=⟨G.n_abs,G.n_len⟩;have td:Td K mg CN:=⟨tx,G.i_MINUS,G.i_POINT,G.i_SLASH,G.i_MOST_BYTES,G.i_TOO_GREAT,xN.xc⟩;have tk:Tk K mg CN:=⟨td,G.i_HASH,G.i_LINE_END,G.i_MOST_NAME_BYTES,G.i_MOST_DIGITS,G.n_ord⟩;have tl:Tl K mg CN:=⟨tk,G.t_WORDS,G.s_MARKS⟩;have tr:Tr K mg CN CF CR:=⟨tl,cR.cl,nR1,nR2,xF.m,xF.kp,G.i_MOST,G.i_NO_TOKEN,G.i_CANNOT_STAND,G.i_NAME_TAKEN,G.i_NO_SUCH_GLASS,G.i_TOO_MANY,G.i_BAD_NUMBER⟩;have tn:Tn K mg CN CF CR:=⟨tr,G.n_tuple⟩;have tq:Tq K mg:=⟨G.t_ZERO,G.t_ONE⟩;have te:Te K CE:=⟨cE.cl,nE1,nE2,nE3,nE4,nE5⟩;have ts:Ts K CS:=⟨cS.cl,nS1,nS2⟩;have tt:Tt K CT:=⟨cT.cl,nT1,nT2,nT3,nT4,nT5,nT6,nT7,nT8⟩;have tm:Tm K mg CL:=⟨G.i_MOST_BITS,xL.xc,G.n_str,G.n_ord,G.n_len⟩;have tpz:Ey K mg CP:=⟨xP.xc,G.n_list,G.n_zip⟩;simp only[List.nodup_cons,List.mem_cons,List.not_mem_nil,or_false,not_or]at nd;obtain⟨⟨a1,a2,a3,a4⟩,⟨b1,b2,b3⟩,⟨c1,c2⟩,d1,_⟩:=nd;obtain⟨fI,fdI,FI_,xi⟩:=xF.ex;have p1:("place" : Str)∈fD:=by decide +kernel
 have p2:("kind" : Str)∈fD:=by decide +kernel
 have ta:Ta K mg CN CF CO CP CL:=⟨G.i_LAST_LINE,G.i_MOST_TEXT_BYTES,G.n_len,xN.xc,xN.xh,⟨xF.m,xF.c⟩,xO.xh,xP.xh,xL.xh,⟨fI,fD,xi,p1,p2⟩,b1,b2,b3,a1,a2,a3,a4,c1,c2,d1⟩;have fi:FI w K mg base CF:=⟨fI,fdI,fD,xi,Fx FI_ xi p1 p2,FI_.binds (λ_ _ _ _ _ _=>gO λ_ _ _=>rfl)⟩;have dcommon_divisor:=F.f_common_divisor.def_ (w:=w) (base:=base) (λ_ _ F=>Dj F) (λ_ _ _ _ _ _=>L6 λ_ _=>rfl);have dfraction:=F.f_fraction.def_ (w:=w) (base:=base) (λ_ _ F=>zJ F tx dcommon_divisor) (λ_ _ _ _ _ _=>L6 λ_ _=>rfl);have dnegative:=F.f_negative.def_ (w:=w) (base:=base) (λ_ _ F=>CU F) (λ_ _ _ _ _ _=>U9 λ_=>rfl);have dplus:=F.f_plus.def_ (w:=w) (base:=base) (λ_ _ F=>zD F dfraction) (λ_ _ _ _ _ _=>L6 λ_ _=>rfl);have dminus:=F.f_minus.def_ (w:=w) (base:=base) (λ_ _ F=>xj F dnegative dplus) (λ_ _ _ _ _ _=>L6 λ_ _=>rfl);have dtimes:=F.f_times.def_ (w:=w) (base:=base) (λ_ _ F=>xb F dfraction) (λ_ _ _ _ _ _=>L6 λ_ _=>rfl);have dover:=F.f_over.def_ (w:=w) (base:=base) (λ_ _ F=>zF F dfraction) (λ_ _ _ _ _ _=>L6 λ_ _=>rfl);have dis_digit:=F.f_is_digit.def_ (w:=w) (base:=base) (λ_ _ F=>xk F) (λ_ _ _ _ _ _=>U9 λ_=>rfl);have ddigits_end:=F.f_digits_end.def_ (w:=w) (base:=base) (λ_ _ F=>ue F td dis_digit) (λ_ _ _ _ _ _=>L6 λ_ _=>rfl);have dwhole_value:=F.f_whole_value.def_ (w:=w) (base:=base) (λ_ _ F=>wZ F) (λ_ _ _ _ _ _=>U9 λ_=>rfl);have dpointed_value:=F.f_pointed_value.def_ (w:=w) (base:=base) (λ_ _ F=>ql F dfraction dwhole_value) (λ_ _ _ _ _ _=>L6 λ_ _=>rfl);have dunsigned_value:=F.f_unsigned_value.def_ (w:=w) (base:=base) (λ_ _ F=>Cq F td ddigits_end dfraction dwhole_value dpointed_value) (λ_ _ _ _ _ _=>U9 λ_=>rfl);have dhanded_over:=F.f_handed_over.def_ (w:=w) (base:=base) (λ_ _ F=>uc F td dnegative dunsigned_value) (λ_ _ _ _ _ _=>U9 λ_=>rfl);have dbegins_name:=F.f_begins_name.def_ (w:=w) (base:=base) (λ_ _ F=>uh F) (λ_ _ _ _ _ _=>U9 λ_=>rfl);have dgoes_on_name:=F.f_goes_on_name.def_ (w:=w) (base:=base) (λ_ _ F=>zI F dbegins_name dis_digit) (λ_ _ _ _ _ _=>U9 λ_=>rfl);have dblanks_end:=F.f_blanks_end.def_ (w:=w) (base:=base) (λ_ _ F=>uf F tk) (λ_ _ _ _ _ _=>L6 λ_ _=>rfl);have dword_or_name:=F.f_word_or_name.def_ (w:=w) (base:=base) (λ_ _ F=>Cp F tl) (λ_ _ _ _ _ _=>U9 λ_=>rfl);have dname_token:=F.f_name_token.def_ (w:=w) (base:=base) (λ_ _ F=>zH F tl dgoes_on_name dword_or_name) (λ_ _ _ _ _ _=>L6 λ_ _=>rfl);have dbars_number:=F.f_bars_number.def_ (w:=w) (base:=base) (λ_ _ F=>zK F tl dgoes_on_name) (λ_ _ _ _ _ _=>L6 λ_ _=>rfl);have dnumber_token:=F.f_number_token.def_ (w:=w) (base:=base) (λ_ _ F=>zG F tl ddigits_end dbars_number) (λ_ _ _ _ _ _=>L6 λ_ _=>rfl);have dtoken_from:=F.f_token_from.def_ (w:=w) (base:=base) (λ_ _ F=>zr F tl dblanks_end dbegins_name dis_digit dname_token dnumber_token) (λ_ _ _ _ _ _=>L6 λ_ _=>rfl);have rsees:=mR1.def_ (w:=w) (mg:=mg) (base:=base) (λ_ _ F=>zw F tr) (λ_ _ _ _ _ _=>L6 λ_ _=>rfl);have rpiece:=mR2.def_ (w:=w) (mg:=mg) (base:=base) (λ_ _ F=>xg F tr) (λ_ _ _ _ _ _=>U9 λ_=>rfl);have rrefuse:=mR3.def_ (w:=w) (mg:=mg) (base:=base) (λ_ _ F=>ub F tr fi) (λ_ _ _ _ _ _=>L6 λ_ _=>rfl);have rexpect:=mR4.def_ (w:=w) (mg:=mg) (base:=base) (λ_ _ F=>ud F tr rsees rrefuse) (λ_ _ _ _ _ _=>L6 λ_ _=>rfl);have rstep:=mR5.def_ (w:=w) (mg:=mg) (base:=base) (λ_ _ F=>zu F tr dtoken_from) (λ_ _ _ _ _ _=>U9 λ_=>rfl);have rtake:=mR6.def_ (w:=w) (mg:=mg) (base:=base) (λ_ _ F=>zt F tr rexpect rpiece rstep) (λ_ _ _ _ _ _=>L6 λ_ _=>rfl);have rd:pH w K mg base CR CF:=⟨rsees,rpiece,rrefuse,rexpect,rstep,rtake⟩;have mR:=iR.mdl (w:=w) (base:=base) cR (λ_ _ F=>Fu F tr dtoken_from) (λ_ _ _ _ _ _=>L6 λ_ _=>rfl);have dread_pointed:=F.f_read_pointed.def_ (w:=w) (base:=base) (λ_ _ F=>CC F tr rd dpointed_value) (λ_ _ _ _ _ _=>U9 λ_=>rfl);have dread_number:=F.f_read_number.def_ (w:=w) (base:=base) (λ_ _ F=>zy F tr rd dread_pointed dwhole_value dover) (λ_ _ _ _ _ _=>U9 λ_=>rfl);have dread_value:=F.f_read_value.def_ (w:=w) (base:=base) (λ_ _ F=>zx F tr rd dread_number dnegative) (λ_ _ _ _ _ _=>U9 λ_=>rfl);have drefuse_number_before:=F.f_refuse_number_before.def_ (w:=w) (base:=base) (λ_ _ F=>DC F tr rd) (λ_ _ _ _ _ _=>gO λ_ _ _=>rfl);have dread_index:=F.f_read_index.def_ (w:=w) (base:=base) (λ_ _ F=>zA F tr rd dread_number drefuse_number_before) (λ_ _ _ _ _ _=>L6 λ_ _=>rfl);have dread_new_name:=F.f_read_new_name.def_ (w:=w) (base:=base) (λ_ _ F=>CG F tn rd) (λ_ _ _ _ _ _=>L6 λ_ _=>rfl);have dread_known_glass:=F.f_read_known_glass.def_ (w:=w) (base:=base) (λ_ _ F=>CH F tn rd) (λ_ _ _ _ _ _=>L6 λ_ _=>rfl);have dread_glass:=F.f_read_glass.def_ (w:=w) (base:=base) (λ_ _ F=>CJ F tn rd dread_new_name dread_index) (λ_ _ _ _ _ _=>L6 λ_ _=>rfl);have dread_glasses:=F.f_read_glasses.def_ (w:=w) (base:=base) (λ_ _ F=>CI F tn rd dread_glass) (λ_ _ _ _ _ _=>U9 λ_=>rfl);have dread_curve:=F.f_read_curve.def_ (w:=w) (base:=base) (λ_ _ F=>zB F tr tq rd dread_value drefuse_number_before dover) (λ_ _ _ _ _ _=>U9 λ_=>rfl);have dread_conic:=F.f_read_conic.def_ (w:=w) (base:=base) (λ_ _ F=>zC F tr tq rd dread_value) (λ_ _ _ _ _ _=>U9 λ_=>rfl);have dpass_clear:=F.f_pass_clear.def_ (w:=w) (base:=base) (λ_ _ F=>zE F tr rd dread_number drefuse_number_before) (λ_ _ _ _ _ _=>U9 λ_=>rfl);have mE:=iE.mdl (w:=w) (base:=base) cE (λ_ _ F=>Fy F te) (λ_ _ _ _ _ _=>FU λ_ _ _ _ _ _=>rfl);have mS:=iS.mdl (w:=w) (base:=base) cS (λ_ _ F=>Ft F ts) (λ_ _ _ _ _ _=>gO λ_ _ _=>rfl);have dread_element:=F.f_read_element.def_ (w:=w) (base:=base) (λ_ _ F=>CK F tn tq rd mE dread_new_name dread_number dread_known_glass dread_curve dread_conic dpass_clear) (λ_ _ _ _ _ _=>gO λ_ _ _=>rfl);have dread_path:=F.f_read_path.def_ (w:=w) (base:=base) (λ_ _ F=>CD F tn rd dread_element) (λ_ _ _ _ _ _=>L6 λ_ _=>rfl);have dread_system:=F.f_read_system.def_ (w:=w) (base:=base) (λ_ _ F=>CA F tn rd mR mS dread_glasses dread_known_glass dread_path) (λ_ _ _ _ _ _=>U9 λ_=>rfl);have mT:=iT.mdl (w:=w) (base:=base) cT (λ_ _ F=>Fs F tt tq) (λ_ _ _ _ _ _=>gO λ_ _ _=>rfl);have ar:yA w K mg base:=⟨dnegative,dplus,dminus,dtimes,dover⟩;have dspread:=F.f_spread.def_ (w:=w) (base:=base) (λ_ _ F=>Ct F dover dminus) (λ_ _ _ _ _ _=>L6 λ_ _=>rfl);have dsquared:=F.f_squared.def_ (w:=w) (base:=base) (λ_ _ F=>Cs F dtimes) (λ_ _ _ _ _ _=>U9 λ_=>rfl);have dshape_station:=F.f_shape_station.def_ (w:=w) (base:=base) (λ_ _ F=>Cw F tt te tq ar dsquared) (λ_ _ _ _ _ _=>yp λ_ _ _ _=>rfl);have dstations_of:=F.f_stations_of.def_ (w:=w) (base:=base) (λ_ _ F=>Cr F tt te ts ar mT dshape_station dspread) (λ_ _ _ _ _ _=>L6 λ_ _=>rfl);have dexact_text:=F.f_exact_text.def_ (w:=w) (base:=base) (λ_ _ F=>DB F tm) (λ_ _ _ _ _ _=>L6 λ_ _=>rfl);have dtold:=F.f_told.def_ (w:=w) (base:=base) (λ_ _ F=>zq F tm dfraction dexact_text) (λ_ _ _ _ _ _=>U9 λ_=>rfl);have drefuse_sizes:=F.f_refuse_sizes.def_ (w:=w) (base:=base) (λ_ _ F=>Cv F ta) (λ_ _ _ _ _ _=>L6 λ_ _=>rfl);have danswered:=F.f_answered.def_ (w:=w) (base:=base) (λ_ _ F=>DF F ta drefuse_sizes dhanded_over dread_system dstations_of dtold) (λ_ _ _ _ _ _=>yp λ_ _ _ _=>rfl);have dlength_scale:=F.f_length_scale.def_ (w:=w) (base:=base) (λ_ _ F=>CW F tt) (λ_ _ _ _ _ _=>L6 λ_ _=>rfl);have dleast_multiple:=F.f_least_multiple.def_ (w:=w) (base:=base) (λ_ _ F=>CY F dcommon_divisor) (λ_ _ _ _ _ _=>U9 λ_=>rfl);have dstation_scale:=F.f_station_scale.def_ (w:=w) (base:=base) (λ_ _ F=>Cz F tt dleast_multiple) (λ_ _ _ _ _ _=>U9 λ_=>rfl);have don_scale:=F.f_on_scale.def_ (w:=w) (base:=base) (λ_ _ F=>Fv F) (λ_ _ _ _ _ _=>L6 λ_ _=>rfl);have dfollow:=F.f_follow.def_ (w:=w) (base:=base) (λ_ _ F=>DA F tt) (λ_ _ _ _ _ _=>gO λ_ _ _=>rfl);have dshaped_part:=F.f_shaped_part.def_ (w:=w) (base:=base) (λ_ _ F=>Cy F tt dstation_scale don_scale) (λ_ _ _ _ _ _=>FV λ_ _ _ _ _=>rfl);have dpart_of:=F.f_part_of.def_ (w:=w) (base:=base) (λ_ _ F=>CM F tt tpz dshaped_part) (λ_ _ _ _ _ _=>gO λ_ _ _=>rfl);have dmeetings_of:=F.f_meetings_of.def_ (w:=w) (base:=base) (λ_ _ F=>CV F tpz don_scale dfollow) (λ_ _ _ _ _ _=>gO λ_ _ _=>rfl);have dadd_parts:=F.f_add_parts.def_ (w:=w) (base:=base) (λ_ _ F=>DH F tpz) (λ_ _ _ _ _ _=>gO λ_ _ _=>rfl);have das_pairs:=F.f_as_pairs.def_ (w:=w) (base:=base) (λ_ _ F=>DD F tpz) (λ_ _ _ _ _ _=>gO λ_ _ _=>rfl);have dsums_of:=F.f_sums_of.def_ (w:=w) (base:=base) (λ_ _ F=>Cu F tpz dlength_scale dmeetings_of dpart_of dstation_scale dleast_multiple dadd_parts das_pairs) (λ_ _ _ _ _ _=>L6 λ_ _=>rfl);have dlast_angle:=F.f_last_angle.def_ (w:=w) (base:=base) (λ_ _ F=>CZ F tq mT dlength_scale don_scale dfollow) (λ_ _ _ _ _ _=>L6 λ_ _=>rfl);have dacross:=F.f_across.def_ (w:=w) (base:=base) (λ_ _ F=>DI F) (λ_ _ _ _ _ _=>yp λ_ _ _ _=>rfl);have dalong:=F.f_along.def_ (w:=w) (base:=base) (λ_ _ F=>DG F) (λ_ _ _ _ _ _=>yp λ_ _ _ _=>rfl);have doffsets:=F.f_offsets.def_ (w:=w) (base:=base) (λ_ _ F=>CQ F tpz dsums_of dlast_angle dleast_multiple don_scale dacross dalong) (λ_ _ _ _ _ _=>gO λ_ _ _=>rfl);exact Fw M.fn M.hd danswered doffsets
end
end Th

open PySem PySem.W PyProof.Rows
set_option maxRecDepth 100000 in
set_option maxHeartbeats 0 in
theorem PySem.Challenge.cw_thirdsums_s04_off_holds : PySem.Challenge.rw_thirdsums_s04_off.Holds := by
 w_on
 refine holds_os (q:=Th.vw) (loose:=[]) (Xt:=fun s=>xlAt Th.vw [] s && recOk [] s) (XP:=XL Th.vw []) (Yf:=Hook.obs (kHook Th.dummy.heap_1 Th.as Th.as_eq)) (Ya:=Hook.val (kHook Th.dummy.heap_1 Th.as Th.as_eq)) (YP:=Hook.says (kHook Th.dummy.heap_1 Th.as Th.as_eq)) (N:=8672) Th.left_o (Hook.of (kHook Th.dummy.heap_1 Th.as Th.as_eq)) (Hook.keeps (kHook Th.dummy.heap_1 Th.as Th.as_eq)) (fun s e=>xl_of s (Bool.and_eq_true_iff.mp e).1) XL.keeps (by rfl) (by rfl) (by rfl) (fun s e=>recFacts_of (Bool.and_eq_true_iff.mp e).2) os_shapes (by decide +kernel) (by decide +kernel) ⟨rfl,rfl,rfl,rfl,rfl,by decide +kernel⟩ ?hw ?hc
 case hw=>exact ⟨[.int 0,.list [],.list [],.list [],.list [],.list [],.list [],.list [],.list []],by decide +kernel,by decide +kernel⟩
 case hc =>
  k_fillS
  refine L2.pL (r:=PySem.Challenge.rw_thirdsums_s04_off) (k:=16) (CX:=fun w=>L2.A7 Th.prog w) (ps:=["line","t","y","v","z","w","p","q","h"]) (sp:=Th.yO) (by decide +kernel) (by decide +kernel) (by kernel_rfl) rfl rfl ⟨rfl,by decide,by decide⟩ (fun w h Y=>W.kIn_of Y) ?F (fun Pt K H xs a hP hw _ hx=>Th.BX a hP hw hx) Th.FE
  case F =>
   intro w mg fa h Y KX G hmg
   refine' Exists.elim (Th.xB (x:="off") (st:=Th.gn) KX G ?ma ?ml ?mc ?mlc ?mv ?mt ?mh) ?go
   (case ma=>k_is);(case ml=>k_is);(case mc=>k_is);(case mlc=>k_is)
   (case mv=>exact rfl)
   (case mt=>kernel_rfl);(case mh=>kernel_rfl)
   case go =>
   intro fd M
   refine Th.vv (w:=w) hmg M ?gG ?gF ?gX ?gR ?gE ?gY ?gT
   case gG =>
    constructor
    all_goals first | (refine' Th.FP KX G ?a;(case a=>k_is);done) | (refine' W.mg_none_of KX G ?a;(case a=>k_is);done) | (refine' Th.FN KX G ?m ?l ?e ?z;(case m=>k_is);(case l=>k_is);(case e=>kernel_rfl);(case z=>decide);done) | (refine' Th.FO KX G ?a;(case a=>k_is))
   case gF =>
    constructor
    all_goals (refine' Th.FQ KX G ?a ?l ?c ?k;(case a=>k_is);(case l=>k_is);(case c=>k_is);(case k=>k_is))
   case gX =>
    refine' ⟨_,_,_,_,_,Th.mw KX G ?a1 ?e1 ?c1,Th.Eh KX G ?a2 ?k2 ?i2 ?j2 ?l2 ?d2 ?q2 ?c2 ?z2,Th.mw KX G ?a3 ?e3 ?c3,Th.mw KX G ?a4 ?e4 ?c4,Th.mw KX G ?a5 ?e5 ?c5,?nd⟩
    (case a1=>k_is);(case e1=>kernel_rfl);(case c1=>kernel_rfl)
    (case a3=>k_is);(case e3=>kernel_rfl);(case c3=>kernel_rfl)
    (case a4=>k_is);(case e4=>kernel_rfl);(case c4=>kernel_rfl)
    (case a5=>k_is);(case e5=>kernel_rfl);(case c5=>kernel_rfl)
    (case a2=>k_is);(case k2=>k_is);(case i2=>k_is);(case j2=>k_is);(case l2=>k_is);(case d2=>k_is);(case q2=>k_is);(case c2=>kernel_rfl);(case z2=>kernel_rfl);(case nd=>decide)
   case gR =>
    refine' ⟨_,?c,?n1,?n2,?m0,?m1,?m2,?m3,?m4,?m5,?m6⟩
    (case c=>refine' Th.mG KX G ?a ?p1 ?p2 ?p3 ?p4 ?p5 ?p6;(case a=>k_is);(case p1=>k_is);(case p2=>k_is);(case p3=>k_is);(case p4=>k_is);(case p5=>k_is);(case p6=>k_is))
    (case n1=>(show W.findIn _ _ _=some none;k_is))
    (case n2=>(show W.findIn _ _ _=some none;k_is))
    (case m0=>refine' Th.Y3 ?a ?i ?l ?c ?k;(case a=>k_is);(case i=>k_is);(case l=>k_is);(case c=>k_is);(case k=>k_is))
    (case m1=>refine' Th.Y3 ?a ?i ?l ?c ?k;(case a=>k_is);(case i=>k_is);(case l=>k_is);(case c=>k_is);(case k=>k_is))
    (case m2=>refine' Th.Y3 ?a ?i ?l ?c ?k;(case a=>k_is);(case i=>k_is);(case l=>k_is);(case c=>k_is);(case k=>k_is))
    (case m3=>refine' Th.Y3 ?a ?i ?l ?c ?k;(case a=>k_is);(case i=>k_is);(case l=>k_is);(case c=>k_is);(case k=>k_is))
    (case m4=>refine' Th.Y3 ?a ?i ?l ?c ?k;(case a=>k_is);(case i=>k_is);(case l=>k_is);(case c=>k_is);(case k=>k_is))
    (case m5=>refine' Th.Y3 ?a ?i ?l ?c ?k;(case a=>k_is);(case i=>k_is);(case l=>k_is);(case c=>k_is);(case k=>k_is))
    (case m6=>refine' Th.Y3 ?a ?i ?l ?c ?k;(case a=>k_is);(case i=>k_is);(case l=>k_is);(case c=>k_is);(case k=>k_is))
   case gE =>
    refine' ⟨_,?c,?m,?n1,?n2,?n3,?n4,?n5⟩
    (case c=>refine' Th.mG KX G ?a ?p1 ?p2 ?p3 ?p4 ?p5 ?p6;(case a=>k_is);(case p1=>k_is);(case p2=>k_is);(case p3=>k_is);(case p4=>k_is);(case p5=>k_is);(case p6=>k_is))
    (case m=>refine' Th.Y3 ?a ?i ?l ?c ?k;(case a=>k_is);(case i=>k_is);(case l=>k_is);(case c=>k_is);(case k=>k_is))
    (case n1=>(show W.findIn _ _ _=some none;k_is))
    (case n2=>(show W.findIn _ _ _=some none;k_is))
    (case n3=>(show W.findIn _ _ _=some none;k_is))
    (case n4=>(show W.findIn _ _ _=some none;k_is))
    (case n5=>(show W.findIn _ _ _=some none;k_is))
   case gY =>
    refine' ⟨_,?c,?m,?n1,?n2⟩
    (case c=>refine' Th.mG KX G ?a ?p1 ?p2 ?p3 ?p4 ?p5 ?p6;(case a=>k_is);(case p1=>k_is);(case p2=>k_is);(case p3=>k_is);(case p4=>k_is);(case p5=>k_is);(case p6=>k_is))
    (case m=>refine' Th.Y3 ?a ?i ?l ?c ?k;(case a=>k_is);(case i=>k_is);(case l=>k_is);(case c=>k_is);(case k=>k_is))
    (case n1=>(show W.findIn _ _ _=some none;k_is))
    (case n2=>(show W.findIn _ _ _=some none;k_is))
   case gT =>
    refine' ⟨_,?c,?m,?n1,?n2,?n3,?n4,?n5,?n6,?n7,?n8⟩
    (case c=>refine' Th.mG KX G ?a ?p1 ?p2 ?p3 ?p4 ?p5 ?p6;(case a=>k_is);(case p1=>k_is);(case p2=>k_is);(case p3=>k_is);(case p4=>k_is);(case p5=>k_is);(case p6=>k_is))
    (case m=>refine' Th.Y3 ?a ?i ?l ?c ?k;(case a=>k_is);(case i=>k_is);(case l=>k_is);(case c=>k_is);(case k=>k_is))
    (case n1=>(show W.findIn _ _ _=some none;k_is))
    (case n2=>(show W.findIn _ _ _=some none;k_is))
    (case n3=>(show W.findIn _ _ _=some none;k_is))
    (case n4=>(show W.findIn _ _ _=some none;k_is))
    (case n5=>(show W.findIn _ _ _=some none;k_is))
    (case n6=>(show W.findIn _ _ _=some none;k_is))
    (case n7=>(show W.findIn _ _ _=some none;k_is))
    (case n8=>(show W.findIn _ _ _=some none;k_is))
