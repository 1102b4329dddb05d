import Derived.Test.YtclpbaokadfhhaaGreatDoorXf
import Derived.Test.YtclpbaokadfhhaaGreatDoorXs
namespace Go.Proofs.YtclpbaokadfhhaaGreatDoor.Wk
open Gf (Fp ofN)
def fA(a b:Fp):Fp:=((a+b)*(a+b))*((a - b)*(a - b))
def fB(a b:Fp):Fp:=((a+b)*(a+b) - (a - b)*(a - b))*((a+b)*(a+b)+((a+b)*(a+b) - (a - b)*(a - b))*ofN 121665)
def fC(a b c d:Fp):Fp:=((c - d)*(a+b)+(c+d)*(a - b))*((c - d)*(a+b)+(c+d)*(a - b))
def fD(u a b c d:Fp):Fp:=u*(((c - d)*(a+b) - (c+d)*(a - b))*((c - d)*(a+b) - (c+d)*(a - b)))
structure St where
 a:Fp
 b:Fp
 c:Fp
 d:Fp
def St.swap(s:St)(t:Bool):St:=if t then⟨s.c,s.d,s.a,s.b⟩else s
def St.step(u:Fp)(s:St):St:=⟨fA s.a s.b,fB s.a s.b,fC s.a s.b s.c s.d,fD u s.a s.b s.c s.d⟩
def St.by(u:Fp)(s:St)(t:Bool):St:=((s.swap t).step u).swap t
def mult(x y z v:Nat):Bool:=
 (decide (z=1)&&decide (y%Pr.P=x*v%Pr.P))||(decide (z=0)&&decide (v=1)&&decide (x%Pr.P=0))||(decide (z=0)&&decide (v=0)&&decide (x%Pr.P=0)&&decide (y%Pr.P=0))
def run(u:Fp)(s:St):List Bool→St
 | []=>s
 |t::r=>run u (s.by u t) r
theorem run_append(u:Fp): ∀(x y:List Bool) (s:St),run u s (x++y)=run u (run u s x) y
 | [],y,s=>rfl
 |t::r,y,s=>by simp only[List.cons_append,run];exact run_append u r y _
def first(u:Fp):St:=⟨1,0,u,1⟩
end Go.Proofs.YtclpbaokadfhhaaGreatDoor.Wk
namespace Go.Proofs.YtclpbaokadfhhaaGreatDoor.Wk
end Go.Proofs.YtclpbaokadfhhaaGreatDoor.Wk
namespace Go.Proofs.YtclpbaokadfhhaaGreatDoor
open Go.RowKit
open Gf (Fp ofN)
open Ff (fe Small)
def Lad.st(s:Lad):Wk.St:=⟨fe s.a,fe s.b,fe s.c,fe s.d⟩
def Lad.small(s:Lad):Prop:=Small s.a∧Small s.b∧Small s.c∧Small s.d
theorem kB:Small Ff.zy:=⟨rfl,by decide+kernel⟩
theorem oR:fe Ff.zy=ofN 121665:=rfl
theorem pX{V:List (BitVec 64)}{s:Lad}(hV:Small V)(h:s.small):(s.step V).small∧(s.step V).st=s.st.step (fe V):=by
 obtain⟨A,B,C,D⟩:=s;obtain⟨hA,hB,hC,hD⟩:=h;dsimp only at hA hB hC hD;have e:=Ff.ws hA hB;have f:=Ff.wK hA hB;have g:=Ff.ws hC hD;have i:=Ff.wK hC hD;have he:=Ff.tR i.1 e.1;have gf:=Ff.tR g.1 f.1;have ee:=Ff.tR e.1 e.1;have ff:=Ff.tR f.1 f.1;have ap:=Ff.wK ee.1 ff.1;have ra:=Ff.tR ee.1 ff.1;have x1:=Ff.tR ap.1 kB;have x2:=Ff.ws ee.1 x1.1;have rb:=Ff.tR ap.1 x2.1;have x3:=Ff.ws he.1 gf.1;have rc:=Ff.tR x3.1 x3.1;have x4:=Ff.wK he.1 gf.1;have x5:=Ff.tR x4.1 x4.1;have rd:=Ff.tR hV x5.1;have sa:Small (Ff.wj A B)∧fe (Ff.wj A B)=Wk.fA (fe A) (fe B):=by
  unfold Ff.wj Wk.fA;refine⟨ra.1,?_⟩;rw[ra.2,ee.2,ff.2,e.2,f.2]
 have sb:Small (Ff.wi A B)∧fe (Ff.wi A B)=Wk.fB (fe A) (fe B):=by
  unfold Ff.wi Ff.apart Wk.fB;refine⟨rb.1,?_⟩;rw[rb.2,x2.2,x1.2,ap.2,ee.2,ff.2,e.2,f.2,oR]
 have sc:Small (Ff.wh A B C D)∧fe (Ff.wh A B C D)=Wk.fC (fe A) (fe B) (fe C) (fe D):=by
  unfold Ff.wh Ff.he Ff.gf Wk.fC;refine⟨rc.1,?_⟩;rw[rc.2,x3.2,he.2,gf.2,e.2,f.2,g.2,i.2]
 have sd:Small (Ff.vZ A B C D V)∧fe (Ff.vZ A B C D V)=Wk.fD (fe V) (fe A) (fe B) (fe C) (fe D):=by
  unfold Ff.vZ Ff.he Ff.gf Wk.fD;refine⟨rd.1,?_⟩;rw[rd.2,x5.2,x4.2,he.2,gf.2,e.2,f.2,g.2,i.2]
 have hst:(Lad.mk A B C D).step V=⟨Ff.wj A B,Ff.wi A B,Ff.wh A B C D,Ff.vZ A B C D V⟩:=rfl;rw[hst];generalize Ff.wj A B=ZA at sa;generalize Ff.wi A B=ZB at sb;generalize Ff.wh A B C D=ZC at sc;generalize Ff.vZ A B C D V=ZD at sd;refine⟨⟨sa.1,sb.1,sc.1,sd.1⟩,?_⟩;show(⟨fe ZA,fe ZB,fe ZC,fe ZD⟩:Wk.St)=⟨Wk.fA (fe A) (fe B),Wk.fB (fe A) (fe B),Wk.fC (fe A) (fe B) (fe C) (fe D),Wk.fD (fe V) (fe A) (fe B) (fe C) (fe D)⟩
 rw[sa.2,sb.2,sc.2,sd.2]
theorem oZ(x:UInt8)(r:Nat):dw x r=if (x.toNat/2^r%2==1)then 1 else 0:=by
 unfold dw;have h:x.toNat/2^r%2=0∨x.toNat/2^r%2=1:=by omega
 rcases h with h|h<;>rw[h]<;>rfl
theorem kS{s:Lad}(h:s.small)(t:Bool):(s.swap (if t then 1 else 0)).small∧(s.swap (if t then 1 else 0)).st=s.st.swap t:=by
 obtain⟨A,B,C,D⟩:=s;obtain⟨hA,hB,hC,hD⟩:=h;dsimp only at hA hB hC hD;cases t with
 |false=>
  unfold Lad.swap;simp only[Bool.false_eq_true,if_false,Ff.wT A C hA.1 hC.1,Ff.wT B D hB.1 hD.1];exact⟨⟨hA,hB,hC,hD⟩,rfl⟩
 |true=>
  unfold Lad.swap;simp only[if_true,Ff.xn A C hA.1 hC.1,Ff.xn B D hB.1 hD.1];exact⟨⟨hC,hD,hA,hB⟩,rfl⟩
def fh(key:List UInt8)(at0:Nat):Bool:=(key.getD (at0/8) 0).toNat/2^(at0%8)%2==1
def eq(key:List UInt8):Nat→List Bool
 |0=> []
 |n+1=>eq key n++ [fh key (254 - n)]
theorem iV:Small [1,0,0,0,0]:=⟨rfl,by decide+kernel⟩
theorem lJ:Small [0,0,0,0,0]:=⟨rfl,by decide+kernel⟩
theorem kD{V:List (BitVec 64)}(hV:Small V):(Lad.first V).small:=⟨iV,lJ,hV,iV⟩
theorem pJ(key:List UInt8){V:List (BitVec 64)}(hV:Small V): ∀n,(Lad.to key V n).small∧(Lad.to key V n).st=Wk.run (fe V) (Wk.first (fe V)) (eq key n)
 |0=>⟨kD hV,rfl⟩
 |n+1=>by
  obtain⟨h1,h2⟩:=pJ key hV n;have hb:dw (key.getD ((254 - n)/8) 0) ((254 - n)%8)=if fh key (254 - n)then 1 else 0:=oZ _ _
  rw[Lad.to,eq,hb];generalize fh key (254 - n)=t;obtain⟨s1,e1⟩:=kS h1 t;obtain⟨s2,e2⟩:=pX hV s1;obtain⟨s3,e3⟩:=kS s2 t;refine⟨s3,?_⟩;rw[e3,e2,e1,h2,Wk.run_append];rfl
theorem oJ(l:List UInt8):Small (Ff.of l):=by
 refine⟨rfl,?_⟩;have h: ∀x:BitVec 64,(x&&&Ff.M51).toNat<4503599627370496:=by
  intro x;rw[Ff.and51];omega
 intro k hk;match k,hk with
 |0,_=>exact h _
 |1,_=>exact h _
 |2,_=>exact h _
 |3,_=>exact h _
 |4,_=>exact h _
end Go.Proofs.YtclpbaokadfhhaaGreatDoor
