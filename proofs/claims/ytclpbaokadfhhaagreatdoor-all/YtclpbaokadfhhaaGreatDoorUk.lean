import Derived.Test.YtclpbaokadfhhaaGreatDoorZm
import Derived.Test.YtclpbaokadfhhaaGreatDoorUb
set_option maxRecDepth 100000
set_option maxHeartbeats 4000000
open List renaming getD_eq_getElem?_getD->Qa,getD_cons_zero->Qc,getD_cons_succ->Qd,append_assoc->Qe,getElem?_eq_getElem->Qf,length_take->Qg,length_append->Qi,eq_nil_of_length_eq_zero->Qj,take_of_length_le->Qk,length_cons->Qm,getElem?_append_right->Qn,getD_nil->Qo,append_nil->Qp,cons_append->Qq,take_length->Qt,getElem?_cons_succ->Qx,getElem?_eq_none->Qy,take_add_one->Qz,length_map->QA,getElem?_eq_some_iff->QB,getElem?_append_left->QC,find?_range_eq_some->QD,getElem?_cons_zero->QE,take_append_drop->QF,getElem_mem->QG,take_left'->QH,mem_range->QI,take_add->QJ
open Go.Value renaming string->QL,bool->QM,int->QN,slice->QO,tuple->QP
open UInt8 renaming ofNat->QQ,toNat_zero->QR,toNat_inj->QT
open Go.Proofs.Tryz renaming prog->QU,ntmps158->QV,func158->QW,ntmps106->QY,ntmps105->QZ,func106->Q0,func105->Q5
open Go.ByteArray renaming toList_eq->Q6,mk_append_mk->Q7
open ByteArray renaming size_append->Q8,size_extract->Q9,size->Ja
open Go.RowKit renaming Below->Jb,intOf->Jc
open Go.Proofs.YtclpbaokadfhhaaGreatDoor renaming Tx_alpha->Jd
open Go.IntKind renaming i64->Je,wrap_u8'->Jf,u8->Jg,wrap_i64->Jh
open Nat renaming add_sub_cancel->Ji,add_zero->Jj,not_lt_zero->Jk,pow_succ->Jl,mod_lt->Jm
open Go.Op renaming stringOp->Jn
open Option.some renaming injEq->Jo
open Or renaming inr->Jp,inl->Jq
open Go renaming World->Jr,Calls->Js
open Go.Ending renaming returned->Jt
open Go.RowKit.Below renaming refl->Ju
open Prod.mk renaming injEq->Jw
namespace Go.Proofs.YtclpbaokadfhhaaGreatDoor
open Go.RowKit
theorem um:∀(j:Nat) (a b:List UInt8),a.length=3*j->aP (a++b)=aP a++aP b
 |0,a,b,h=>by
  have:=Qj oo;subst this;rfl
 |j+1,a,b,h=>by
  match a,h with
  |x::y::z::r,h=>
   show cA [x,y,z]++aP (r++b)=(cA [x,y,z]++aP r)++aP b
   rw[um j r b (by simp only[Qm]at h;omega),Qe]
theorem TN(b:Qu)(h0:1<=b.length)(d:b.length<=3):aP b=cA b:=by
 match b,h0,d with
 | [a],_,_=>rfl
 | [a,b],_,_=>rfl
 | [a,b,c],_,_=>simp[aP]
def oM(l:List UInt8)(j:Nat):List UInt8:=(l.drop (3*j)).take 3
theorem yl(l:Qu)(j:Nat):(oM l j).length=min 3 (l.length-3*j):=by unfold oM;rw[Qg,List.length_drop]
theorem FZ(l:Qu)(j:Nat)(h:3*j<l.length):aP (l.take (3*(j+1)))=aP (l.take (3*j))++cA (oM l j):=by
 have a:=yl l j;rw[show l.take (3*(j+1))=l.take (3*j)++oM l j by unfold oM;rw[<-QJ];rfl,um j _ _ (by rw[Qg];omega),TN (oM l j) oo oo]
theorem VU(l:Qu)(j i:Nat)(h:i<3):(oM l j).getD i 0=l.getD (3*j+i) 0:=by
 unfold oM;rw[Qa,Qa,List.getElem?_take_of_lt h,List.getElem?_drop]
def nU(g:List UInt8):Nat:=65536*(g.getD 0 0).toNat+256*(g.getD 1 0).toNat+(g.getD 2 0).toNat
theorem aaf:∀(i:Fin 256) (j:Fin 16),((i.val.toUInt8&&&3)<<<4|||j.val.toUInt8).toNat=i.val%4*16+j.val:=dk
theorem aae:∀(i:Fin 256) (j:Fin 4),((i.val.toUInt8&&&15)<<<2|||j.val.toUInt8).toNat=i.val%16*4+j.val:=dk
theorem aad:∀i:Fin 256,(i.val.toUInt8>>>2).toNat=i.val/4/\(i.val.toUInt8>>>4).toNat=i.val/16/\(i.val.toUInt8>>>6).toNat=i.val/64/\(i.val.toUInt8&&&63).toNat=i.val%64:=dk
theorem Ee(x:UInt8):x=((⟨x.toNat,x.toNat_lt⟩:Fin 256).val).toUInt8:=ss
theorem Bm(x:UInt8):(x>>>2).toNat=x.toNat/4/\(x>>>4).toNat=x.toNat/16/\(x>>>6).toNat=x.toNat/64/\(x&&&63).toNat=x.toNat%64:=by
 have:=aad ⟨x.toNat,x.toNat_lt⟩;rw[<-Ee]at this;exact this
theorem TM(x y:UInt8)(h:y.toNat<16):((x&&&3)<<<4|||y).toNat=x.toNat%4*16+y.toNat:=by
 have:=aaf ⟨x.toNat,x.toNat_lt⟩ ⟨y.toNat,h⟩;rw[<-Ee,show ((⟨y.toNat,h⟩:Fin 16).val).toUInt8=y by simp]at this;exact this
theorem Zj(x y:UInt8)(h:y.toNat<4):((x&&&15)<<<2|||y).toNat=x.toNat%16*4+y.toNat:=by
 have:=aae ⟨x.toNat,x.toNat_lt⟩ ⟨y.toNat,h⟩;rw[<-Ee,show ((⟨y.toNat,h⟩:Fin 4).val).toUInt8=y by simp]at this;exact this
theorem Iu(g:Qu)(l:1<=g.length)(m:g.length<=3)(k:Nat)(r:k<4):(cA g).getD k 0=if k<g.length+1 then Jd.getD (nU g/(262144/64^k)%64) 0 else 61:=by
 have o:∀x:UInt8,((x&&&3)<<<4).toNat=x.toNat%4*16:=λx=>by have:=TM x 0 dd;simpa using this
 have p:∀x:UInt8,((x&&&15)<<<2).toNat=x.toNat%16*4:=λx=>by have:=Zj x 0 dd;simpa using this
 have f:k=0\/k=1\/k=2\/k=3:=oo
 match g,l,m with
 | [a],_,_=>
  have h:=a.toNat_lt;obtain⟨d,_,_,_⟩:=Bm a;rcases f with rfl|rfl|rfl|rfl
  .show Jd.getD (a>>>2).toNat 0=_
   rw[if_pos ss,d];congr 1
   simp only[nU,Qc,Qd,Qo,QR];omega
  .show Jd.getD ((a&&&3)<<<4).toNat 0=_
   rw[if_pos ss,o];congr 1
   simp only[nU,Qc,Qd,Qo,QR];omega
  .rfl
  .rfl
 | [a,b],_,_=>
  have h:=a.toNat_lt;have n:=b.toNat_lt;obtain⟨d,_,_,_⟩:=Bm a;obtain⟨_,e,_,_⟩:=Bm b;rcases f with rfl|rfl|rfl|rfl
  .show Jd.getD (a>>>2).toNat 0=_
   rw[if_pos ss,d];congr 1
   simp only[nU,Qc,Qd,Qo,QR];omega
  .show Jd.getD ((a&&&3)<<<4|||b>>>4).toNat 0=_
   rw[if_pos ss,TM a _ oo,e];congr 1
   simp only[nU,Qc,Qd,Qo,QR];omega
  .show Jd.getD ((b&&&15)<<<2).toNat 0=_
   rw[if_pos ss,p];congr 1
   simp only[nU,Qc,Qd,Qo,QR];omega
  .rfl
 | [a,b,c],_,_=>
  have h:=a.toNat_lt;have n:=b.toNat_lt;have q:=c.toNat_lt;obtain⟨d,_,_,_⟩:=Bm a;obtain⟨_,e,_,_⟩:=Bm b;obtain⟨_,_,i,j⟩:=Bm c;rcases f with rfl|rfl|rfl|rfl
  .show Jd.getD (a>>>2).toNat 0=_
   rw[if_pos ss,d];congr 1
   simp only[nU,Qc,Qd];omega
  .show Jd.getD ((a&&&3)<<<4|||b>>>4).toNat 0=_
   rw[if_pos ss,TM a _ oo,e];congr 1
   simp only[nU,Qc,Qd];omega
  .show Jd.getD ((b&&&15)<<<2|||c>>>6).toNat 0=_
   rw[if_pos ss,Zj b _ oo,i];congr 1
   simp only[nU,Qc,Qd];omega
  .show Jd.getD (c&&&63).toNat 0=_
   rw[if_pos ss,j];congr 1
   simp only[nU,Qc,Qd];omega
theorem Of(g:Qu)(k:Nat)(a:k<4):(cA g).take (k+1)=(cA g).take k++ [(cA g).getD k 0]:=by
 have:=iy g;rw[Qz,Qf oo,Qa,Qf oo];rfl
def Tx_tbl:ByteArray:=⟨#[65,66,67,68,69,70,71,72,73,74,75,76,77,78,79,80,81,82,83,84,85,86,87,88,89,90,97,98,99,100,101,102,103,104,105,106,107,108,109,110,111,112,113,114,115,116,117,118,119,120,121,122,48,49,50,51,52,53,54,55,56,57,43,47]⟩
theorem VO:∀d:Fin 64,Tx_tbl.extract d.val (d.val+1)=⟨#[Jd.getD d.val 0]⟩:=dk
theorem AO(L:Qu)(x:Qb)(y:UInt8)(h:x=⟨#[y]⟩):(⟨L.toArray⟩:ByteArray)++x=⟨(L++ [y]).toArray⟩:=by
 subst h;exact Q7 L [y]
theorem Ma(s:Qb)(w:Jr)(hs:s.size<=100000):
  Js QU 202 #[QL s] w λe w'=>e=Jt (QL ⟨(aP s.data.toList).toArray⟩)/\w'=w:=by
 have a3:s.data.toList.length=s.size:=ss
 have r:=Qh λi S=>gh s i S
 have W:=FZ s.data.toList;have y:Hid (∀j,3*j<s.size->aP (s.data.toList.take (3*(j+1)))=aP (s.data.toList.take (3*j))++cA (oM s.data.toList j)):=λj hj=>W j oo
 have c:Hid (∀j i,i<3->(oM s.data.toList j).getD i 0=s.data.toList.getD (3*j+i) 0):=λj i S=>VU _ j i S
 have L:Hid (∀j,(oM s.data.toList j).length=min 3 (s.size-3*j)):=λj=>by rw[yl,a3]
 have M:Hid (∀j,(aP (s.data.toList.take (3*j))).length<=200000):=λj=>by
  show _<=_
  rw[jW,Qg];omega
 have x:Hid (∀j,s.size<=3*j->aP (s.data.toList.take (3*j))=aP s.data.toList):=λj hj=>by rw[Qk oo]
 generalize aP s.data.toList=EE at x|-;have K:Hid (aP (s.data.toList.take (3*0))=[]):=by show _=_;simp[aP]
 generalize ab:(λj=>aP (s.data.toList.take (3*j)))=J;have ad:∀j,aP (s.data.toList.take (3*j))=J j:=λj=>by rw[<-ab]
 clear ab W;simp only[ad]at y M x K;clear ad;generalize s.data.toList.getD=BY at r c;generalize oM s.data.toList=GR at y c L;go_enter Tryz.func202,Tryz.ntmps202;go_wp2_with fail;go_loop [3,4] (λo i=> ∃j:Nat,i=QN Je ((3*j:Nat):Int)/\3*j<=s.size+2/\o=QL ⟨(J j).toArray⟩) (λ_ i=>s.size+3-(Jc i).toNat)
 case atStart=>exact⟨0,rfl,oo,by rw[K.out]⟩
 case round=>
  obtain⟨j,rfl,hj,rfl⟩:=hrel;by_cases ao:3*j<s.size
  .have Q:=y.out j ao;have R:=L.out j;have hz:=M.out j;have l:=c.out j 0 oo;have A:=c.out j 1 oo;have B:=c.out j 2 oo;generalize GR j=g at Q R l A B;have G:=Iu g oo oo;have hT:=Of g;have b:nU g=65536*(g.getD 0 0).toNat+256*(g.getD 1 0).toNat+(g.getD 2 0).toNat:=rfl;have C:g.length<=1->g.getD 1 0=0:=λh=>by rw[Qa,Qy h];rfl
   have D:g.length<=2->g.getD 2 0=0:=λh=>by rw[Qa,Qy h];rfl
   generalize g.getD 0 0=v at l b;generalize g.getD 1 0=H at A b C;generalize g.getD 2 0=x2 at B b D;generalize nU g=d at G b;generalize g.length=q at R G C D;rw[Jj]at l;have r0:=v.toNat_lt;have r1:=H.toNat_lt;have r2:=x2.toNat_lt;have b0:=r.out (3*j) ao;rw[<-l]at b0;have d1:((3*j:Nat):Int)<(s.size:Int):=oo
   have Z:=Qh Q;have ax:=Qh G;have ay:=Qh hT;have ag:Hid (∀h:3*j+1<s.size,s[3*j+1]=H):=λh=>by rw[r.out _ h,A]
   have ah:Hid (∀h:3*j+2<s.size,s[3*j+2]=x2):=λh=>by rw[r.out _ h,B]
   clear Q G hT l A B r y c L M x K;generalize J j=E at Z hz|-;generalize hI:3*j=I at*;go_upto_if 25 with fail
   go_cut [5,6] (λn m wc=> ∃z:Nat,n=QN Je (z:Int)/\z<=16777216/\((I+1<s.size/\z=65536*v.toNat+256*H.toNat/\m=QN Je 3)\/(¬I+1<s.size/\z=65536*v.toNat/\m=QN Je 2))/\wc=w)
   case first=>
    by_cases p:I+1<s.size
    .have N:(I:Int)+1<(s.size:Int):=oo
     have t1:((I:Int)+1).toNat=I+1:=oo
     have b1:=ag.out p;go_wp2_with fail;go_meet
     case rel=>exact⟨65536*v.toNat+256*H.toNat,cH oo,oo,Jq ⟨p,rfl,rfl⟩,rfl⟩
    .have N:¬(I:Int)+1<(s.size:Int):=oo
     go_wp2_with fail;go_meet
     case rel=>exact⟨65536*v.toNat,cH oo,oo,Jp ⟨p,rfl,rfl⟩,rfl⟩
   case rest=>
    obtain⟨z,rfl,a6,ap,rfl⟩:=hcut;go_upto_if 38 with fail
    go_cut [5,6] (λn m wd=>n=QN Je (d:Int)/\m=QN Je ((q:Int)+1)/\wd=wc)
    case first=>
     by_cases c2:I+2<s.size
     .have N:(I:Int)+2<(s.size:Int):=oo
      have t2:((I:Int)+2).toNat=I+2:=oo
      have b2:=ah.out c2;go_wp2_with fail;go_meet
      case rel=>exact⟨cH oo,cH oo,rfl⟩
     .have N:¬(I:Int)+2<(s.size:Int):=oo
      have q2:=D oo;subst q2;rcases ap with ⟨p,e1,rfl⟩|⟨p,e1,rfl⟩
      .go_wp2_with fail;go_meet
       case rel=>exact⟨cH (by rw[b];simp),cH oo,rfl⟩
      .have q1:=C oo;subst q1;go_wp2_with fail;go_meet
       case rel=>exact⟨cH (by rw[b];simp),cH oo,rfl⟩
    case rest=>
     obtain⟨rfl,rfl,rfl⟩:=hcut;have hN:d<16777216:=oo
     have a7:q<=3:=oo
     clear ap a6 b C D ag ah r0 r1 r2 R;go_wp2_with fail;go_loop [3,7,8] (λo u k=> ∃kk:Nat,kk<=4/\k=QN Je (kk:Int)/\o=QL ⟨(E++(cA g).take kk).toArray⟩/\u=QN Je ((262144/64^kk:Nat):Int)) (λ_ _ k=>4-(Jc k).toNat)
     case atStart=>exact⟨0,oo,rfl,ss,rfl⟩
     case round=>
      obtain⟨kk,a8,rfl,rfl,rfl⟩:=hrel;by_cases hk:kk<4
      .have hu:1<=262144/64^kk/\262144/64^kk<=262144:=by
        rcases(by omega:kk=0\/kk=1\/kk=2\/kk=3)with rfl|rfl|rfl|rfl<;>decide
       have O:262144/64^(kk+1)=262144/64^kk/64:=by rw[Jl,Nat.div_div_eq_div_mul]
       have f:=ax.out kk hk;have X:=ay.out kk hk;generalize 262144/64^kk=t at hu O f|-;have T:=Qh O;clear O;have P:=Qh X;clear X;have a4:((cA g).take kk).length<=4:=by rw[Qg];omega
       generalize (cA g).take kk=F at P a4|-;have q0:¬(t:Int)=0:=oo
       have hq:(d:Int)/(t:Int)=((d/t:Nat):Int):=(Int.natCast_ediv _ _).symm;have a5:d/t<16777216:=Nat.lt_of_le_of_lt (Nat.div_le_self _ _) hN;generalize d/t=a at hq a5 f;by_cases an:kk<q+1
       .have hd:a%64<64:=Jm _ dd;rw[if_pos an]at f;have hx:(⟨#[65,66,67,68,69,70,71,72,73,74,75,76,77,78,79,80,81,82,83,84,85,86,87,88,89,90,97,98,99,100,101,102,103,104,105,106,107,108,109,110,111,112,113,114,115,116,117,118,119,120,121,122,48,49,50,51,52,53,54,55,56,57,43,47]⟩:ByteArray).extract (a%64) (a%64+1)=⟨#[Jd.getD (a%64) 0]⟩:=VO ⟨a%64,hd⟩;have d3:(kk:Int)<(q:Int)+1:=oo
        have t1:((a:Int)%64).toNat=a%64:=oo
        have t2:((a:Int)%64+1).toNat=a%64+1:=oo
        have t3:(0:Int)<=(a:Int)%64:=oo
        have t4:(a:Int)%64+1<=64:=oo
        go_wp2_with fail;go_round
        case rel=>exact⟨kk+1,oo,gn,by rw[P.out,f,<-Qe];first|exact congrArg QL (AO _ _ _ rfl)|exact congrArg QL (AO _ _ _ hx),cH (by rw[T.out];omega)⟩
        case measure=>simp[Jc];omega
       .rw[if_neg an]at f;have d3:¬(kk:Int)<(q:Int)+1:=oo
        go_wp2_with fail;go_round
        case rel=>exact⟨kk+1,oo,gn,by rw[P.out,f,<-Qe];exact congrArg QL (AO _ _ 61 rfl),cH (by rw[T.out];omega)⟩
        case measure=>simp[Jc];omega
      .have az:kk=4:=oo
       subst az;have ht:(cA g).take 4=cA g:=Qk (by rw[iy];omega);rw[ht,<-Z.out];go_wp2_with fail;go_round
       case rel=>exact⟨j+1,cH oo,oo,rfl⟩
       case measure=>simp[Jc];omega
  .have d1:¬((3*j:Nat):Int)<(s.size:Int):=oo
   rw[x.out j oo];go_wp2;go_ret;exact⟨rfl,rfl⟩
theorem Ra(r:Qu)(h:48<r.length):(aP r).take 64=aP (r.take 48)/\(aP r).drop 64=aP (r.drop 48):=by
 have a:=um 16 (r.take 48) (r.drop 48) (by rw[Qg];omega);rw[QF]at a;have h2:=jW (r.take 48);rw[Qg,show min 48 r.length=48 by omega]at h2;rw[a];exact⟨QH h2,List.drop_left' h2⟩
theorem Mw(r:Qu)(h:48<r.length):(fG r).map aP=aP (r.take 48)::(fG (r.drop 48)).map aP:=by
 rw[rv r (by intro h0;rw[h0]at h;simp at h)];rfl
theorem Mx(r:Qu)(h:r.length<=48):(fG r).map aP=if r=[]then []else [aP r]:=by
 by_cases h0:r=[]
 .rw[if_pos h0,h0];rfl
 .rw[if_neg h0,rv r h0,Qk h,List.drop_of_length_le h];rfl
theorem wN(r:Qu):aP r=[]↔r=[]:=by
 constructor
 .intro h;have:=jW r;rw[h]at this;simp only[List.length_nil]at this;exact Qj oo
 .intro h;rw[h];rfl
theorem rP(x y:Qb)(h:x.size+y.size<=9223372036854775807):Jn .add x y=pure (QL (x++y)):=by
 unfold Jn;have:¬((x.size+y.size:Nat):Int)>Je.max:=by show¬((x.size+y.size:Nat):Int)>9223372036854775807;omega
 simp only[this,if_false]
theorem m9(a b:Qb):(a++b).data.toList=a.data.toList++b.data.toList:=ss
theorem G5(s:Qb)(i j:Nat):(s.extract i j).data.toList=(s.data.toList.take j).drop i:=by simp[List.drop_take]
theorem Ck{a:Qb}{l:Qu}(h:a.data.toList=l):a=⟨l.toArray⟩:=by
 cases a
 simp only at h;rw[<-h]
theorem aca(s:Qb)(w:Jr)(X:s.size<=12000):
  Js QU 157 #[QL s] w λe w'=>e=Jt (QL ⟨(oF s.data.toList).toArray⟩)/\w'=w:=by
 have i:=Qh λwx=>Ma s wx oo
 have S:s.data.toList.length<=12000:=by rw[show s.data.toList.length=s.size by simp];exact X
 generalize s.data.toList=b at i S|-;have T:=Ad b.length b nR;have m:(⟨(aP b).toArray⟩:ByteArray).data.toList=aP b:=rfl;have Z:(⟨(aP b).toArray⟩:ByteArray).size=(aP b).length:=by show(aP b).toArray.size=_;simp
 generalize (⟨(aP b).toArray⟩:ByteArray)=B at i m Z;have G:(⟨#[45,45,45,45,45,66,69,71,73,78,32,77,73,83,83,73,86,69,45,45,45,45,45,10]⟩:ByteArray).data.toList=aE [eG]:=rfl;have H:(⟨#[45,45,45,45,45,66,69,71,73,78,32,77,73,83,83,73,86,69,45,45,45,45,45,10]⟩:ByteArray).size=24:=rfl;have z:Hid (∃(O C:ByteArray) (a:List (List UInt8)) (r:List UInt8),QL B=QL C/\QL ⟨#[45,45,45,45,45,66,69,71,73,78,32,77,73,83,83,73,86,69,45,45,45,45,45,10]⟩=QL O/\C.data.toList=aP r/\O.data.toList=aE (eG::a)/\(fG b).map aP=a++(fG r).map aP/\O.size<=24+65*a.length):=⟨_,B,[],b,rfl,rfl,m,G,rfl,by rw[H];simp⟩;clear G H m;go_enter Tryz.func157,Tryz.ntmps157;go_wp2_with fail;refine mo (i.out _) λw1 ab=>?_;obtain rfl:=ab.symm;go_wp2_with fail;go_loop [3,4] (λl o=> ∃(O C:ByteArray) (a:List (List UInt8)) (r:List UInt8),l=QL C/\o=QL O/\C.data.toList=aP r/\O.data.toList=aE (eG::a)/\(fG b).map aP=a++(fG r).map aP/\O.size<=24+65*a.length) (λl _=>match l with| QL x=>x.size|_=>0)
 case atStart=>exact z.out
 case round=>
  clear z i;obtain⟨O,C,a,r,rfl,rfl,c,f,d,hz⟩:=hrel;have ag:a.length<=12000:=by
   have:=congrArg List.length d;rw[QA,Qi,T]at this;omega
  have n:C.size=(aP r).length:=by rw[<-c];simp
  have t:=jW r;by_cases I:48<r.length
  .have N:(64:Int)<(C.size:Int):=oo
   have d2:(64:Int)<=(C.size:Int):=oo
   obtain⟨E,F⟩:=Ra r I;have J:(C.extract 0 64).size=64:=by rw[Q9];omega
   have K:(C.extract 0 64).data.toList=aP (r.take 48):=by rw[G5,c,List.drop_zero,E]
   have L:(C.extract 64 C.size).data.toList=aP (r.drop 48):=by rw[G5,Qk ss,c,F]
   have x4:(C.extract 64 C.size).size<C.size:=by rw[Q9];omega
   have A:Jn .add O (C.extract 0 64)=pure (QL (O++C.extract 0 64)):=rP _ _ oo;have g:(O++C.extract 0 64).size=O.size+64:=by rw[Q8,J]
   have D:Jn .add (O++C.extract 0 64) ⟨#[10]⟩=pure (QL (O++C.extract 0 64++⟨#[10]⟩)):=rP _ _ (by rw[g];show O.size+64+1<=_;omega);have R:Hid (∃(k v:ByteArray) (a:List (List UInt8)) (r:List UInt8),QL (C.extract 64 C.size)=QL v/\QL (O++C.extract 0 64++⟨#[10]⟩)=QL k/\v.data.toList=aP r/\k.data.toList=aE (eG::a)/\(fG b).map aP=a++(fG r).map aP/\k.size<=24+65*a.length):=by
    refine⟨_,_,a++ [aP (r.take 48)],r.drop 48,rfl,rfl,L,?_,?_,?_⟩
    .rw[m9,m9,f,K,<-Qq,ko,Qe];rfl
    .rw[d,Mw r I,Qe];rfl
    .rw[Q8,g,Qi];show O.size+64+1<=24+65*(a.length+1)
     omega
   clear J K L g E F d f c t n;go_wp2_with fail;go_round
   case rel=>exact R.out
   case measure=>show Ja _<Ja _;exact x4
  .have N:¬(64:Int)<(C.size:Int):=oo
   have u:=Mx r oo;rw[u]at d;have j:oF b=aE (eG::((fG b).map aP++ [ju])):=rfl;by_cases h0:r=[]
   .rw[if_pos h0,Qp]at d;have Q:C=⟨#[]⟩:=by rw[h0]at c;exact Ck c
    subst Q;have A:Jn .add O ⟨#[45,45,45,45,45,69,78,68,32,77,73,83,83,73,86,69,45,45,45,45,45]⟩=pure (QL (O++⟨#[45,45,45,45,45,69,78,68,32,77,73,83,83,73,86,69,45,45,45,45,45]⟩)):=rP _ _ (by show O.size+21<=_;omega);have D:Jn .add (O++⟨#[45,45,45,45,45,69,78,68,32,77,73,83,83,73,86,69,45,45,45,45,45]⟩) ⟨#[10]⟩=pure (QL (O++⟨#[45,45,45,45,45,69,78,68,32,77,73,83,83,73,86,69,45,45,45,45,45]⟩++⟨#[10]⟩)):=rP _ _ (by rw[Q8];show O.size+21+1<=_;omega);have q:Hid (O++⟨#[45,45,45,45,45,69,78,68,32,77,73,83,83,73,86,69,45,45,45,45,45]⟩++⟨#[10]⟩=⟨(oF b).toArray⟩):=by
     apply Ck
     rw[j,m9,m9,f,d,<-Qq,ko,Qe];rfl
    clear d f c j u t n;go_wp2;go_ret;exact⟨by rw[q.out];rfl,rfl⟩
   .rw[if_neg h0]at d;have ad:¬C=⟨#[]⟩:=λh=>h0 ((wN r).1 (by rw[<-c,h]))
    have an:(C.toList==(⟨#[]⟩:ByteArray).toList)=false:=by
     rw[beq_eq_false_iff_ne,Q6,Q6];intro h;exact h0 ((wN r).1 (by rw[<-c,h]))
    have ah:C.toList.isEmpty=false:=by
     rw[Q6,c];cases W:aP r with
     |nil=>exact absurd ((wN r).1 W) h0
     |cons x y=>rfl
    have a0:Jn .add O C=pure (QL (O++C)):=rP _ _ oo;have y0:(O++C).size<=O.size+64:=by rw[Q8];omega
    have M:Jn .add (O++C) ⟨#[10]⟩=pure (QL (O++C++⟨#[10]⟩)):=rP _ _ (by show(O++C).size+1<=_;omega);have g:(O++C++(⟨#[10]⟩:ByteArray)).size<=O.size+65:=by rw[Q8];show(O++C).size+1<=_;omega
    have p:(O++C++(⟨#[10]⟩:ByteArray)).data.toList=aE (eG::(fG b).map aP):=by
     rw[d,m9,m9,f,c,<-Qq,ko,Qe];rfl
    generalize O++C++(⟨#[10]⟩:ByteArray)=P at M g p;have A:Jn .add P ⟨#[45,45,45,45,45,69,78,68,32,77,73,83,83,73,86,69,45,45,45,45,45]⟩=pure (QL (P++⟨#[45,45,45,45,45,69,78,68,32,77,73,83,83,73,86,69,45,45,45,45,45]⟩)):=rP _ _ (by show P.size+21<=_;omega);have D:Jn .add (P++⟨#[45,45,45,45,45,69,78,68,32,77,73,83,83,73,86,69,45,45,45,45,45]⟩) ⟨#[10]⟩=pure (QL (P++⟨#[45,45,45,45,45,69,78,68,32,77,73,83,83,73,86,69,45,45,45,45,45]⟩++⟨#[10]⟩)):=rP _ _ (by rw[Q8];show P.size+21+1<=_;omega);have q:Hid (P++⟨#[45,45,45,45,45,69,78,68,32,77,73,83,83,73,86,69,45,45,45,45,45]⟩++⟨#[10]⟩=⟨(oF b).toArray⟩):=by
     apply Ck
     rw[j,m9,m9,p,<-Qq,ko,Qe];rfl
    clear d f c j u p t n;go_wp2;go_ret;exact⟨by rw[q.out];rfl,rfl⟩
theorem S3(s:Qb)(w:Jr):
  Js QU 105 #[QL s] w λe w'=>e=Jt (QP #[QL (ik s).1,QN Je (ik s).2])/\w'=w:=by
 by_cases h:s.size<=12000
 .have a:ik s=(⟨(oF s.data.toList).toArray⟩,0):=by unfold ik;rw[if_pos h]
  have b:=Qh λf=>aca s f h
  rw[a];generalize (⟨(oF s.data.toList).toArray⟩:ByteArray)=T at b|-;have c:¬(12000:Int)<(s.size:Int):=oo
  go_enter Q5,QZ;go_wp2_with fail;refine mo (b.out _) λg d=>?_;obtain rfl:=d.symm;go_wp2;go_ret2;exact⟨rfl,rfl⟩
 .have a:ik s=(⟨#[]⟩,1):=by unfold ik;rw[if_neg h]
  rw[a];have c:(12000:Int)<(s.size:Int):=oo
  go_enter Q5,QZ;go_wp2;go_ret2;exact⟨rfl,rfl⟩
def vu(c:UInt8):Option Nat:=(List.range 64).find? λi=>Jd.getD i 0==c
def uj(c:UInt8):Int:=match vu c with|some i=>(i:Int)|none=> -1
theorem P7:∀d:Fin 64,Tx_tbl.data.toList.getD d.val 0=Jd.getD d.val 0:=dk
theorem LM(c:UInt8)(i:Nat)(h:vu c=some i):i<64:=QI.1 (QD.1 h).2.1
theorem aav(c:UInt8)(w:Jr):
  Js QU 203 #[QN Jg (c.toNat:Int)] w λe w'=>e=Jt (QN Je (uj c))/\w'=w:=by
 have f:Hid (∀i,i<64->Jd.getD i 0=c->(∀j,j<i-> ¬Jd.getD j 0=c)->uj c=(i:Int)):=λi u t p=>by
  have:vu c=some i:=QD.2 ⟨by simpa using t,QI.2 u,λj g=>by simpa using p j g⟩;show uj c=_
  unfold uj;rw[this]
 have d:Hid ((∀j,j<64-> ¬Jd.getD j 0=c)->uj c= -1):=λp=>by
  have:vu c=none:=List.find?_range_eq_none.2 (λj g=>by simpa using p j g);show uj c=_
  unfold uj;rw[this]
 have l:Hid (∀i (h:i<64),(⟨#[65,66,67,68,69,70,71,72,73,74,75,76,77,78,79,80,81,82,83,84,85,86,87,88,89,90,97,98,99,100,101,102,103,104,105,106,107,108,109,110,111,112,113,114,115,116,117,118,119,120,121,122,48,49,50,51,52,53,54,55,56,57,43,47]⟩:ByteArray)[i]'h=Jd.getD i 0):=λi h=>(gh Tx_tbl i h).trans (P7 ⟨i,h⟩)
 generalize uj c=P at f d|-;have o:Hid (∀j,j<0-> ¬Jd.getD j 0=c):=λj g=>absurd g (Jk j)
 generalize Jd.getD=a at f d l o;go_enter Tryz.func203,Tryz.ntmps203;go_wp2_with fail;go_loop [3] (λi=> ∃k:Nat,k<=64/\i=QN Je (k:Int)/\Hid (∀j,j<k-> ¬a j 0=c)) (λi=>64-(Jc i).toNat)
 case atStart=>exact⟨0,oo,rfl,o⟩
 case round=>
  clear o;obtain⟨k,F,rfl,b⟩:=hrel;by_cases q:k<64
  .have E:(k:Int)<64:=oo
   have D:(0:Int)<=(k:Int):=oo
   have r:=l.out k q;by_cases m:a k 0=c
   .have C:=f.out k q m b.out;rw[m]at r;clear f d l b;go_wp2;go_ret;exact⟨rfl,rfl⟩
   .have n:((a k 0).toNat:Int)=(c.toNat:Int)->False:=λh=>m (QT.1 oo)
    have z:(((a k 0).toNat:Int)==(c.toNat:Int))=false:=by rw[beq_eq_false_iff_ne];exact n
    have A:((a k 0).toNat==c.toNat)=false:=by rw[beq_eq_false_iff_ne];intro h;exact n oo
    have B:¬(a k 0).toNat=c.toNat:=λh=>n oo
    have s:Hid (∀j,j<k+1-> ¬a j 0=c):=λj g=>by
     by_cases v:j<k
     .exact b.out j v
     .rw[show j=k by omega];exact m
    clear f d l b;generalize a k 0=y at r n z A B;go_wp2_with fail;go_round
    case rel=>exact⟨k+1,oo,gn,s⟩
    case measure=>simp[Jc];omega
  .have x:k=64:=oo
   subst x;have C:=d.out b.out;clear f d l b;go_wp2;go_ret;exact⟨rfl,rfl⟩
def vy(last:Bool)(g:Nat->UInt8)(k:Nat):Bool:=g k==61&&last&&decide (2<=k)&&(k==3||g 3==61)
def jK(last:Bool)(g:Nat->UInt8):Nat->Option (Nat×Nat)
 |0=>some (0,0)
 |k+1=>match jK last g k with
  |none=>none
  |some (n,p)=>if vy last g k=true then some (64*n,p+1)else match vu (g k)with
   |none=>none
   |some v=>some (64*n+v,p)
def pa(n p:Nat):List UInt8:=[QQ (n/65536),QQ (n/256%256),QQ (n%256)].take (3-p)
def gX(l:List UInt8):Nat->Option (List UInt8)
 |0=>some []
 |j+1=>match gX l j with
  |none=>none
  |some x=>match jK (4*j+4==l.length) (λk=>l.getD (4*j+k) 0) 4 with
   |none=>none
   |some (n,p)=>some (x++pa n p)
def ki(l:List UInt8):List UInt8×Bool:=
 if l.length=0\/64<l.length\/ ¬l.length%4=0 then([],false)
 else match gX l (l.length/4)with
  |none=>([],false)
  |some x=>(x,aP x==l)
theorem Is(a:Bool)(g:Nat->UInt8)(k:Nat)(h:jK a g k=none):∀m,jK a g (k+m)=none
 |0=>h
 |m+1=>by
  show jK a g (k+m+1)=none
  rw[jK,Is a g k h m]
theorem Oc(b:Bool)(g:Nat->UInt8):∀(k n p:Nat),jK b g k=some (n,p)->n<64^k/\p+2<=max k 2
 |0,n,p,h=>by
  simp only[jK,Jo,Jw]at h;obtain⟨rfl,rfl⟩:=h;exact⟨dd,oo⟩
 |k+1,n,p,h=>by
  rw[jK]at h;cases c:jK b g k with
  |none=>rw[c]at h;cases h
  |some f=>
   obtain⟨e,i⟩:=f;have l:=Oc b g k e i c;rw[c]at h;simp only at h;have j:64^(k+1)=64*64^k:=by rw[Jl,Nat.mul_comm]
   by_cases a:vy b g k=true
   .rw[if_pos a]at h;simp only[Jo,Jw]at h;obtain⟨rfl,rfl⟩:=h;have h2:2<=k:=by
     unfold vy at a;simp only[Bool.and_eq_true,decide_eq_true_eq]at a;exact a.1.2
    exact⟨oo,oo⟩
   .rw[if_neg a]at h;cases d:vu (g k)with
    |none=>rw[d]at h;cases h
    |some v=>
     rw[d]at h;simp only[Jo,Jw]at h;obtain⟨rfl,rfl⟩:=h;have:=LM _ _ d;exact⟨oo,oo⟩
theorem Dk(l:Qu)(j:Nat)(h:gX l j=none):∀m,gX l (j+m)=none
 |0=>h
 |m+1=>by
  show gX l (j+m+1)=none
  rw[gX,Dk l j h m]
theorem KN(n p:Nat):(pa n p).length<=3:=by unfold pa;rw[Qg];exact Nat.min_le_right _ _
theorem Ac(l:Qu):∀(j:Nat) (x:List UInt8),gX l j=some x->x.length<=3*j
 |0,x,h=>by
  simp only[gX,Jo]at h;subst h;simp
 |j+1,x,h=>by
  rw[gX]at h;cases a:gX l j with
  |none=>rw[a]at h;cases h
  |some y=>
   have c:=Ac l j y a;rw[a]at h;simp only at h;cases ht:jK (4*j+4==l.length) (λk=>l.getD (4*j+k) 0) 4 with
   |none=>rw[ht]at h;cases h
   |some b=>
    obtain⟨n,p⟩:=b;rw[ht]at h;simp only[Jo]at h;subst h;have:=KN n p;rw[Qi];omega
theorem VP(k:Nat)(h:k<=4):64^k<=16777216:=by
 rcases(by omega:k=0\/k=1\/k=2\/k=3\/k=4)with rfl|rfl|rfl|rfl|rfl<;>decide
theorem U5{w:Jr}{b t cap:Nat}{L:Qu}(c:Blk w b (Bs L) t)(n:Nat)(f:n<=L.length):
  (convert 55 9 (QO (some ⟨b,0,none⟩) n cap)).run QU w=.ok (QL ⟨(L.take n).toArray⟩) w:=by
 have d:(L.take n).length=n:=by rw[Qg];omega
 have:=run_convert_bytes_back (P:=QU) w 55 9 5 ⟨b,0,none⟩ cap (L.take n) Tryz.underlying55 Tryz.underlying5 Tryz.underlying9 (by
  intro j e;have a:(⟨b,0,none⟩:Addr).add j=⟨b,j,none⟩:=by unfold Addr.add;split<;>simp_all
  rw[a,c.cell,zT,Qf oo,List.getElem_take];rfl)
 rw[d]at this;exact this
theorem acD(l:Qb)(w:Jr):
  Rw 158 #[QL l] w (QP #[QL ⟨(ki l.data.toList).1.toArray⟩,QM (ki l.data.toList).2]):=by
 have D:l.data.toList.length=l.size:=ss
 by_cases P:l.size=0\/64<l.size\/ ¬l.size%4=0
 .have e1:ki l.data.toList=([],false):=by unfold ki;rw[D,if_pos P]
  rw[e1];by_cases c0:l.size=0
  .have d0:(l.size:Int)=0:=oo
   go_enter QW,QV;go_wp2;go_ret2;exact⟨rfl,Ju _ _⟩
  .have d0:((l.size:Int)==0)=false:=by rw[beq_eq_false_iff_ne];omega
   have a0:¬(l.size:Int)=0:=oo
   by_cases c1:64<l.size
   .have d1:(64:Int)<(l.size:Int):=oo
    go_enter QW,QV;go_wp2;go_ret2;exact⟨rfl,Ju _ _⟩
   .have d1:¬(64:Int)<(l.size:Int):=oo
    have d2:¬(l.size:Int)%4=0:=oo
    have d3:((l.size:Int)%4 !=0)=true:=by rw[bne_iff_ne];exact d2
    go_enter QW,QV;go_wp2;go_ret2;exact⟨rfl,Ju _ _⟩
 .obtain⟨m,s⟩:∃m,l.size=4*m:=⟨l.size/4,oo⟩
  have bs:1<=m:=oo
  have bt:m<=16:=oo
  have d0:((l.size:Int)==0)=false:=by rw[beq_eq_false_iff_ne];omega
  have a0:¬(l.size:Int)=0:=oo
  have d1:¬(64:Int)<(l.size:Int):=oo
  have d2:(l.size:Int)%4=0:=oo
  have B:Hid (∀j,gX l.data.toList j=none->j<=m->ki l.data.toList=([],false)):=λj hj ap=>by
   show _=_
   unfold ki;rw[D,if_neg P,show l.size/4=j+(m-j) by omega,Dk _ j hj]
  have r:Hid (∀x,gX l.data.toList m=some x->ki l.data.toList=(x,aP x==l.data.toList)):=λx J=>by
   show _=_
   unfold ki;rw[D,if_neg P,show l.size/4=m by omega,J]
  have Q:=Qh λi hi=>gh l i hi
  have z:Hid (∀j x,gX l.data.toList j=some x->gX l.data.toList (j+1)=match jK (4*j+4==l.size) (λk=>l.data.toList.getD (4*j+k) 0) 4 with|none=>none|some (n,p)=>some (x++pa n p)):=λj x J=>by
   show _=_
   rw[gX,J,D]
  have A:Hid (∀j x,gX l.data.toList j=some x->x.length<=3*j):=λj x J=>Ac _ j x J
  have W:Hid (gX l.data.toList 0=some []):=rfl;have S:Hid (∀x:List UInt8,((⟨(aP x).toArray⟩:ByteArray).toList==l.toList)=(aP x==l.data.toList)):=λx=>by
   show _=_
   rw[Q6,Q6]
  generalize ki l.data.toList=RR at B r|-;generalize gX l.data.toList=DT at B r z A W;generalize l.data.toList=X at Q z r S;clear P D;replace s:=Qh s;go_enter QW,QV;go_wp2_with fail;have B0:Hid (Jb w.heap.size w w):=Ju _ _;go_loopw [4,5] (λo i wr=> ∃(j:Nat) (x:List UInt8),j<=m/\i=QN Je ((4*j:Nat):Int)/\o=QL ⟨x.toArray⟩/\Hid (DT j=some x)/\Hid (Jb w.heap.size w wr)) (λ_ i _=>4*m+4-(Jc i).toNat)
  case atStart=>exact⟨0,[],oo,rfl,rfl,W,B0⟩
  case round=>
   clear W B0;obtain⟨j,x,hj,rfl,rfl,O,L⟩:=hrel;by_cases bq:j<m
   .have f1:((4*j:Nat):Int)<(l.size:Int):=by have:=s.out;omega
    have g:=z.out j x O.out;have hz:=A.out j x O.out;have C:Hid (∀k,k<4-> ∃h:4*j+k<l.size,l[4*j+k]=X.getD (4*j+k) 0):=λk R=>⟨by have:=s.out;omega,Q.out _ (by have:=s.out;omega)⟩
    have ax:Hid ((4*j+4==l.size)=decide (((4*j:Nat):Int)+4=(l.size:Int))):=by
     show _=_
     by_cases h:4*j+4=l.size
     .rw[decide_eq_true oo,beq_iff_eq];exact h
     .rw[decide_eq_false oo,beq_eq_false_iff_ne];exact h
    generalize hG:(λk=>X.getD (4*j+k) 0)=G at g;have ah:∀k,X.getD (4*j+k) 0=G k:=λk=>by rw[<-hG]
    clear hG;replace C:Hid (∀k,k<4-> ∃h:4*j+k<l.size,l[4*j+k]=G k):=λk R=>by
     obtain⟨h,e⟩:=C.out k R;exact⟨h,by rw[e,ah]⟩
    generalize (4*j+4==l.size)=c at g ax;have az:Hid (jK c G 0=some (0,0)):=rfl;replace g:=Qh g;clear ah z A Q;generalize hI:4*j=I at*;go_wp2_with fail;go_loop [6,7,8] (λn p k=> ∃a b kk:Nat,kk<=4/\k=QN Je (kk:Int)/\n=QN Je (a:Int)/\p=QN Je (b:Int)/\Hid (jK c G kk=some (a,b))) (λ_ _ k=>4-(Jc k).toNat)
    case atStart=>exact⟨0,0,0,oo,rfl,rfl,rfl,az⟩
    case round=>
     clear az;obtain⟨a,b,kk,a4,rfl,rfl,rfl,T⟩:=hrel;have a6:=Oc c G kk a b T.out;have a9:=VP kk a4;have bx:a<16777216:=oo
     have bz:b<=2:=oo
     clear a6 a9;by_cases R:kk<4
     .obtain⟨bd,bk⟩:=C.out kk R;obtain⟨bh,bi⟩:=C.out 3 oo;have HV:=Qh λwx=>aav (G kk) wx
      have k1:(kk:Int)<4:=oo
      have tk:((I:Int)+(kk:Int)).toNat=I+kk:=oo
      have t3:((I:Int)+3).toNat=I+3:=oo
      have o1:(0:Int)<=(I:Int)+(kk:Int):=oo
      have o2:(I:Int)+(kk:Int)<(l.size:Int):=oo
      have o3:(I:Int)+3<(l.size:Int):=oo
      have wk:Je.wrap ((I:Int)+(kk:Int))=(I:Int)+(kk:Int):=by rw[Jh];omega
      go_wp2_with fail;refine mo (HV.out _) λwv ad=>?_;obtain rfl:=ad.symm;have E:=ax.out;generalize ab:G kk=d at*;generalize an:G 3=f at*;have q:vy c G kk=(d==61&&c&&decide (2<=kk)&&(kk==3||f==61)):=by unfold vy;rw[ab,an]
      generalize N:uj d=ag;have r1:((d.toNat:Int)==61)=(d==61):=by
       by_cases h:d=61
       .subst h;rfl
       .rw[beq_eq_false_iff_ne.2 h,beq_eq_false_iff_ne];intro h2;exact h (QT.1 (by show d.toNat=61;omega))
      have r3:((f.toNat:Int)==61)=(f==61):=by
       by_cases h:f=61
       .subst h;rfl
       .rw[beq_eq_false_iff_ne.2 h,beq_eq_false_iff_ne];intro h2;exact h (QT.1 (by show f.toNat=61;omega))
      go_upto_region 13 with fail
      go_cut [8,67] (λk t wd=>k=QN Je (kk:Int)/\t=QM (vy c G kk)/\wd=wr)
      case first=>
       by_cases Z:d=61
       .subst Z;by_cases cb:(I:Int)+4=(l.size:Int)
        .rw[decide_eq_true cb]at E;subst E;by_cases cc:2<=kk
         .have c2:(kk:Int)>=2:=oo
          by_cases cd:kk=3
          .have c3:((kk:Int)==3)=true:=by rw[beq_iff_eq];omega
           have a3:f=61:=by rw[<-an,<-cd,ab]
           subst a3;go_wp2_with fail;go_meet
           case rel=>exact⟨by first|rfl|exact cH oo,congrArg QM (by rw[q];simp[cd]),rfl⟩
          .have c3:((kk:Int)==3)=false:=by rw[beq_eq_false_iff_ne];omega
           have ba:¬(kk:Int)=3:=oo
           by_cases ce:f=61
           .subst ce;go_wp2_with fail;go_meet
            case rel=>exact⟨by first|rfl|exact cH oo,congrArg QM (by rw[q];simp[cc]),rfl⟩
           .have K:((f.toNat:Int)==61)=false:=by rw[r3,beq_eq_false_iff_ne];exact ce
            have r5:¬(f.toNat:Int)=61:=by rw[beq_eq_false_iff_ne]at K;exact K
            clear r3;go_wp2_with fail;go_meet
            case rel=>exact⟨by first|rfl|exact cH oo,congrArg QM (by rw[q];simp[cd,ce]),rfl⟩
         .have c2:¬(kk:Int)>=2:=oo
          go_wp2_with fail;go_meet
          case rel=>exact⟨by first|rfl|exact cH oo,congrArg QM (by rw[q];simp[cc]),rfl⟩
        .rw[decide_eq_false cb]at E;subst E;have bb:((I:Int)+4==(l.size:Int))=false:=by rw[beq_eq_false_iff_ne];exact cb
         go_wp2_with fail;go_meet
         case rel=>exact⟨by first|rfl|exact cH oo,congrArg QM (by rw[q];simp),rfl⟩
       .have K:((d.toNat:Int)==61)=false:=by rw[r1,beq_eq_false_iff_ne];exact Z
        have r5:¬(d.toNat:Int)=61:=by rw[beq_eq_false_iff_ne]at K;exact K
        clear r1;go_wp2_with fail;go_meet
        case rel=>exact⟨by first|rfl|exact cH oo,congrArg QM (by rw[q];simp[Z]),rfl⟩
      case rest=>
       obtain⟨rfl,rfl,rfl⟩:=hcut;clear q r1 r3 E;have u:Hid (jK c G (kk+1)=if vy c G kk=true then some (64*a,b+1)else match vu d with|none=>none|some v=>some (64*a+v,b)):=by
        show _=_
        rw[jK,T.out,ab]
       by_cases F:vy c G kk=true
       .have y:Hid (jK c G (kk+1)=some (64*a,b+1)):=by show _=_;rw[u.out,if_pos F]
        rw[F];clear u;go_wp2_with fail;go_round
        case rel=>exact⟨64*a,b+1,kk+1,oo,gn,cH oo,cH oo,y⟩
        case measure=>simp[Jc];omega
       .have a8:vy c G kk=false:=by simpa using F
        rw[a8];cases H:vu d with
        |none=>
         have ay:ag= -1:=by rw[<-N];unfold uj;rw[H]
         have y:jK c G (kk+1)=none:=by rw[u.out,if_neg F,H]
         have h4:=Is c G (kk+1) y (3-kk);rw[show kk+1+(3-kk)=4 by omega]at h4;have hr:=B.out (j+1) (by rw[g.out,h4]) oo;have d9:ag<0:=oo
         clear u y h4 g B r S C N;go_wp2;go_ret2;rw[hr];exact⟨rfl,L.out⟩
        |some v=>
         have ay:ag=(v:Int):=by rw[<-N];unfold uj;rw[H]
         have bX:=LM d v H;have y:Hid (jK c G (kk+1)=some (64*a+v,b)):=by show _=_;rw[u.out,if_neg F,H]
         clear u N;subst ay;go_wp2_with fail;go_round
         case rel=>exact⟨64*a+v,b,kk+1,oo,gn,cH oo,cH oo,y⟩
         case measure=>simp[Jc];omega
     .have a5:kk=4:=oo
      subst a5;have M:=g.out;rw[T.out]at M;replace M:=Qh M;have ao:=U5 (cap:=3) (Blk.new wr (Bs [QQ (a/65536),QQ (a/256%256),QQ (a%256)]) 5) (3-b) (by show 3-b<=3;omega);rw[show Bs [QQ (a/65536),QQ (a/256%256),QQ (a%256)]=#[QN Jg ((a:Int)/65536),QN Jg ((a:Int)/256%256),QN Jg ((a:Int)%256)] by
       simp only[Bs,List.map_cons,List.map_nil];congr 1
       simp;omega]at ao
      have u1:Jg.wrap ((a:Int)/65536)=(a:Int)/65536:=by rw[Jf];omega
      have b1:Jg.wrap ((a:Int)/256%256)=(a:Int)/256%256:=by rw[Jf];omega
      have b2:Jg.wrap ((a:Int)%256)=(a:Int)%256:=by rw[Jf];omega
      have t3:((3:Int)-(b:Int)).toNat=3-b:=oo
      have o1:(0:Int)<=3-(b:Int):=oo
      have o2:(3:Int)-(b:Int)<=3:=oo
      have bY:(⟨x.toArray⟩:ByteArray).size<=100:=by show x.toArray.size<=100;simp;omega
      have ho:Hid ((⟨x.toArray⟩:ByteArray)++⟨([QQ (a/65536),QQ (a/256%256),QQ (a%256)].take (3-b)).toArray⟩=⟨(x++pa a b).toArray⟩):=Q7 x (pa a b);have a7:(⟨([QQ (a/65536),QQ (a/256%256),QQ (a%256)].take (3-b)).toArray⟩:ByteArray).size<=3:=by show(([QQ (a/65536),QQ (a/256%256),QQ (a%256)].take (3-b)).toArray).size<=3;simp
      generalize (⟨([QQ (a/65536),QQ (a/256%256),QQ (a%256)].take (3-b)).toArray⟩:ByteArray)=O3 at ao ho a7;have a1:Jn .add ⟨x.toArray⟩ O3=pure (QL (⟨x.toArray⟩++O3)):=rP _ _ oo;rw[ho.out]at a1;have a2:Hid (Jb w.heap.size w (wr.alloc (.cells #[QN Jg ((a:Int)/65536),QN Jg ((a:Int)/256%256),QN Jg ((a:Int)%256)] 5))):=L.out.alloc L.out.size _;clear g T;go_wp2_with fail;go_roundw
      case rel=>exact⟨j+1,_,oo,cH oo,rfl,M,a2⟩
      case measure=>simp[Jc];omega
   .have ap:j=m:=oo
    subst ap;have f1:¬((4*j:Nat):Int)<(l.size:Int):=by have:=s.out;omega
    have hr:=r.out x O.out;have hq:=S.out x;have b0:x.length<=100:=by have:=A.out j x O.out;omega
    have HL:=Qh λwx=>Ma ⟨x.toArray⟩ wx (by show x.toArray.size<=_;simp;omega)
    generalize (⟨(aP x).toArray⟩:ByteArray)=EX at HL hq;clear Q z A B r S;go_wp2_with fail;refine mo (HL.out _) λwv ad=>?_;obtain rfl:=ad.symm;go_wp2;go_ret2;rw[hr];exact⟨by rw[<-hq];rfl,L.out⟩
theorem VQ:∀d:Fin 64,vu (Jd.getD d.val 0)=some d.val/\Jd.getD d.val 0≠61:=dk
theorem si(b:Bool)(g:Nat->UInt8)(k n p d:Nat)(f:jK b g k=some (n,p))(e:d<64)(a:g k=Jd.getD d 0):jK b g (k+1)=some (64*n+d,p):=by
 obtain⟨c,h2⟩:=VQ ⟨d,e⟩;rw[jK,f,a];simp only;rw[if_neg (by unfold vy;rw[a];simp only[beq_eq_false_iff_ne.2 h2,Bool.false_and];decide),c]
theorem Ct(a:Bool)(g:Nat->UInt8)(k n p:Nat)(e:jK a g k=some (n,p))(d:a=true)(h2:2<=k)(c:g k=61)(b:k=3\/g 3=61):jK a g (k+1)=some (64*n,p+1):=by
 rw[jK,e];simp only;rw[if_pos (by
  unfold vy;rw[c,d];rcases b with h|h
  .simp[h]
  .simp[h,h2])]
theorem wM(a:UInt8)(n:Nat)(h:n=a.toNat):QQ n=a:=by subst h;simp
theorem TK(d:Bool)(g:Qu)(o:1<=g.length)(q:g.length<=3)(t:g.length<3->d=true)(f:Nat->UInt8)(y:∀k,k<4->f k=(cA g).getD k 0):
  ∃n p,jK d f 4=some (n,p)/\pa n p=g:=by
 have e:∀k,k<4->f k=if k<g.length+1 then Jd.getD (nU g/(262144/64^k)%64) 0 else 61:=λk s=>by rw[y k s,Iu g o q k s]
 have j:∀k,nU g/(262144/64^k)%64<64:=λk=>Jm _ dd
 have z:jK d f 0=some (0,0):=rfl;have v:=si d f 0 0 0 _ z (j 0) (by rw[e 0 dd,if_pos oo]);have l:=si d f 1 _ 0 _ v (j 1) (by rw[e 1 dd,if_pos oo]);rw[show 262144/64^0=262144 from rfl]at v l;rw[show 262144/64^1=4096 from rfl]at l;match g,o,q with
 | [a],_,_=>
  have r:=a.toNat_lt;have w:f 2=61:=by rw[e 2 dd,if_neg ss]
  have m:f 3=61:=by rw[e 3 dd,if_neg ss]
  have u:=t ss;have h:=Ct d f 2 _ _ l u dd w (Jp m);have i:=Ct d f 3 _ _ h u dd m (Jq rfl);refine⟨_,_,i,?_⟩;simp only[nU,Qc,Qd,Qo,QR,pa];show [QQ _]=[a]
  rw[wM a _ oo]
 | [a,b],_,_=>
  have r:=a.toNat_lt;have x:=b.toNat_lt;have m:f 3=61:=by rw[e 3 dd,if_neg ss]
  have h:=si d f 2 _ 0 _ l (j 2) (by rw[e 2 dd,if_pos ss]);rw[show 262144/64^2=64 from rfl]at h;have i:=Ct d f 3 _ _ h (t ss) dd m (Jq rfl);refine⟨_,_,i,?_⟩;simp only[nU,Qc,Qd,Qo,QR,pa];show [QQ _,QQ _]=[a,b]
  rw[wM a _ oo,wM b _ oo]
 | [a,b,c],_,_=>
  have r:=a.toNat_lt;have x:=b.toNat_lt;have A:=c.toNat_lt;have h:=si d f 2 _ 0 _ l (j 2) (by rw[e 2 dd,if_pos ss]);have i:=si d f 3 _ 0 _ h (j 3) (by rw[e 3 dd,if_pos ss]);rw[show 262144/64^2=64 from rfl,show 262144/64^3=1 from rfl]at i;refine⟨_,_,i,?_⟩;simp only[nU,Qc,Qd,pa];show [QQ _,QQ _,QQ _]=[a,b,c]
  rw[wM a _ oo,wM b _ oo,wM c _ oo]
theorem VW(b:Qu)(j k:Nat)(d:3*j<b.length)(e:k<4):(aP b).getD (4*j+k) 0=(cA (oM b j)).getD k 0:=by
 have a:=FZ b j d;have h2:(aP (b.take (3*j))).length=4*j:=by rw[jW,Qg];omega
 have c:∃t,aP b=aP (b.take (3*(j+1)))++t:=by
  by_cases h:3*(j+1)<=b.length
  .refine⟨aP (b.drop (3*(j+1))),?_⟩;rw[<-um (j+1) _ _ (by rw[Qg];omega),QF]
  .exact⟨[],by rw[Qk oo,Qp]⟩
 obtain⟨t,ht⟩:=c;rw[ht,a,Qe,Qa,Qn oo,h2,show 4*j+k-4*j=k by omega,QC (by rw[iy];exact e),Qa]
theorem Eg(b:Qu):∀j,3*j<b.length+3->gX (aP b) j=some (b.take (3*j))
 |0,_=>rfl
 |j+1,h=>by
  have f:=yl b j;obtain⟨n,p,d,c⟩:=TK (4*j+4==(aP b).length) (oM b j) oo oo (λe=>by rw[beq_iff_eq,jW];omega) (λk=>(aP b).getD (4*j+k) 0) (λk a=>VW b j k oo a);rw[gX,Eg b j oo];simp only;rw[d];simp only;rw[c];congr 1
  unfold oM;rw[<-QJ];rfl
theorem P8(l:Qu):(ki l).2=(aU l).2/\((aU l).2=true->(ki l).1=(aU l).1):=by
 cases b:(aU l).2 with
 |true=>
  unfold aU at b;by_cases c:l=[]\/64<l.length
  .rw[if_pos c]at b;cases b
  .rw[if_neg c]at b;have e:aP (f9 l)=l:=by simpa using b
   have f:=jW (f9 l);rw[e]at f;have h0:¬l.length=0:=λh=>c (Jq (Qj h))
   have g:¬64<l.length:=λh=>c (Jp h)
   have d:=Eg (f9 l) (l.length/4) oo;rw[e,Qk oo]at d;have a:ki l=(f9 l,true):=by
    unfold ki;rw[if_neg oo,d];simp only;rw[e];simp
   rw[a];unfold aU;rw[if_neg c];exact⟨rfl,λ_=>rfl⟩
 |false=>
  refine⟨?_,λh=>by cases h⟩;cases a:(ki l).2 with
  |false=>rfl
  |true=>
   exfalso
   unfold ki at a;by_cases c:l.length=0\/64<l.length\/ ¬l.length%4=0
   .rw[if_pos c]at a;cases a
   .rw[if_neg c]at a;cases d:gX l (l.length/4)with
    |none=>rw[d]at a;cases a
    |some x=>
     rw[d]at a;have e:aP x=l:=by simpa using a
     have:(aU l).2=true:=by
      unfold aU;rw[if_neg (by
       rintro(h|h)
       .rw[h]at c;exact c (Jq rfl)
       .exact c (Jp (Jq h))),<-e,Iv]
      simp
     rw[this]at b;cases b
theorem Dj:∀l:List UInt8,4*(f9 l).length<=3*l.length
 |a::b::c::d::r=>by
  have f:=Dj r;have e:(mj [a,b,c,d]).length<=3:=by
   unfold mj jz;split<;>simp
  show 4*(mj [a,b,c,d]++f9 r).length<=_
  rw[Qi];simp only[Qm];omega
 | []=>by simp[f9]
 | [_]=>by simp[f9]
 | [_,_]=>by simp[f9]
 | [_,_,_]=>by simp[f9]
theorem It(l:Qu):(aU l).1.length<=48:=by
 unfold aU;split
 .simp
 .rename_i h
  have:=Dj l;have a:=λh2=>h (Jp h2)
  show(f9 l).length<=48
  omega
def One(w:Jr)(base:Nat)(v:Value)(l:List ByteArray):Prop:=(l=[]/\v=QO none 0 0)\/ ∃g,base<=g/\OwnG w g v l
theorem Xu{w:Jr}{b:Nat}{v:Value}{l:List ByteArray}(h:One w b v l)(j:b<=w.heap.size)(x:Qb)(o:l.length<1000000000):
  ∃v' w',(Builtin.append_ #[25,25] 25 #[v,QO (some ⟨w.heap.size,0,none⟩) 1 1]).run QU (w.alloc (.cells #[QL x] 9))=.ok v' w'/\One w' b v' (l++ [x])/\Jb b w w':=by
 have f:(w.alloc (.cells #[QL x] 9)).cell? ⟨w.heap.size,0,none⟩=some (QL x):=cell_of_row _ _ 0 _ _ _ (heap_alloc_new w _);have a:Jb w.heap.size w (w.alloc (.cells #[QL x] 9)):=bR.alloc nR _;rcases h with ⟨rfl,rfl⟩|⟨g,k,i⟩
 .obtain⟨v',w',e,d,c⟩:=append_nil (w:=w.alloc (.cells #[QL x] 9)) x _ f;exact⟨v',w',e,Jp ⟨_,by have:=a.size;omega,d⟩,(a.mono j).trans (c.mono (by have:=a.size;omega))⟩
 .obtain⟨v',w',m,e,d,n,c⟩:=TD (i.keep (a.block g i.lt)) x _ f o;refine⟨v',w',e,Jp ⟨m,?_,d⟩,(a.mono j).trans (c.below.mono k)⟩;rcases n with rfl|rfl
  .exact k
  .have:=a.size;omega
theorem One.slice{w:Jr}{b:Nat}{v:Value}{l:List ByteArray}(h:One w b v l):∃(e:Option Addr) (cp:Nat),v=QO e l.length cp/\ ∀k,k<l.length-> ∃g,e=some ⟨g,0,none⟩/\b<=g/\g<w.heap.size/\w.cell? ⟨g,k,none⟩=some (QL (aM l k)):=by
 rcases h with ⟨rfl,rfl⟩|⟨g,f,c⟩
 .exact⟨none,0,rfl,λk a=>absurd a (Jk k)⟩
 .have d:=c.sr;obtain⟨cap,i,j,rfl,_⟩:=c;exact⟨_,_,rfl,λk a=>⟨g,rfl,f,d.1,d.2 k a⟩⟩
def pU(l:List UInt8):ByteArray:=⟨l.toArray⟩
theorem zn:∀(ls:List (List UInt8)) (t:Nat) (b:List UInt8) (h:t<ls.length),aE ls++b=aE (ls.take t)++(ls[t]++10::(aE (ls.drop (t+1))++b))
 |l::r,0,b,_=>by simp[aE]
 |l::r,t+1,b,h=>by
  have a:=zn r t b (by simpa using h);simp only[List.take_succ_cons,aE,Qq,Qe,List.getElem_cons_succ,List.drop_succ_cons];rw[a]
theorem P6(ls:List (List UInt8))(t:Nat)(h:t<ls.length):(aE (ls.take (t+1))).length=(aE (ls.take t)).length+ls[t].length+1:=by
 rw[Qz,Qf h,ko];simp[aE];omega
theorem P9(A B C D:Qu)(h:D=A++(B++C)):(D.take (A.length+B.length)).drop A.length=B:=by
 rw[h,<-Qe,QH (by rw[Qi]),List.drop_left]
theorem LQ(A B C D:Qu)(h:D=A++(B++C))(k:Nat)(a:A.length<=k)(h2:k<A.length+B.length):D.getD k 0∈B:=by
 rw[h,Qa,Qn a,QC oo,Qf oo];exact QG _
def Tx_RI(ls:List (List UInt8))(i:Nat)(o:List UInt8)(en wh:Bool):Prop:=
 (i=0/\o=[]/\en=false/\wh=true)\/ ∃r,ls=eG::r/\1<=i/\
  ((en=false/\cF r=(o++(if wh=true then cF (r.drop (i-1))else ([],0)).1,i-1+(if wh=true then cF (r.drop (i-1))else ([],0)).2))\/(en=true/\i=(cF r).2+2/\r[(cF r).2]? =some ju/\o=(cF r).1))
theorem xu(r:List (List UInt8))(b:Qu):eU (eG::r) b=match r[(cF r).2]? with
   |none=>([],(cF r).2+1,false)
   |some z=>if z≠ju then([],(cF r).2+1,false)else if(cF r).2+1<r.length\/b≠ []then ([],(cF r).2+2,false)else ((cF r).1,0,true):=by
 rw[eU,if_neg ss];rfl
theorem Cu(r:List (List UInt8))(i:Nat)(z:Qu)(h:r[i]? =some z):r.drop i=z::r.drop (i+1):=by
 obtain⟨a,h2⟩:=QB.1 h;rw[<-h2,List.drop_eq_getElem_cons a]
theorem Tx_RI.over{ls:List (List UInt8)}{i:Nat}{o:Qu}{f:Bool}{b z:Qu}(h:Tx_RI ls i o true f)(e:ls[i]? =some z):eU ls b=([],i,false):=by
 rcases h with ⟨_,_,h,_⟩|⟨r,rfl,g,⟨h,_⟩|⟨_,a,c,_⟩⟩
 .cases h
 .cases h
 .have d:=(QB.1 e).1;simp only[Qm]at d;rw[xu,c];simp only;rw[if_neg ss,if_pos (Jq oo),a]
theorem Tx_RI.zero{ls:List (List UInt8)}{b z:Qu}(a:ls[0]? =some z)(h:¬z=eG):eU ls b=([],0,false):=by
 cases ls with
 |nil=>cases a
 |cons l r=>
  simp only[QE,Jo]at a;subst a;rw[eU,if_pos h]
theorem Tx_RI.one{ls:List (List UInt8)}(a:ls[0]? =some eG):Tx_RI ls 1 [] false true:=by
 cases ls with
 |nil=>cases a
 |cons l r=>
  simp only[QE,Jo]at a;subst a;exact Jp ⟨r,rfl,Nat.le_refl _,Jq ⟨rfl,ss⟩⟩
theorem Tx_RI.last{ls:List (List UInt8)}{i:Nat}{o:Qu}{b:Bool}(h:Tx_RI ls i o false b)(e:1<=i)(c:ls[i]? =some ju):Tx_RI ls (i+1) o true b:=by
 rcases h with ⟨h,_⟩|⟨r,rfl,_,⟨_,a⟩|⟨h,_⟩⟩
 .omega
 .obtain⟨j,rfl⟩:∃j,i=j+1:=⟨i-1,oo⟩
  simp only[Qx]at c;rw[Ji]at a;have d:(if b=true then cF (r.drop j)else ([],0))=([],0):=by
   cases b
   .rfl
   .rw[if_pos rfl,Cu r j _ c];exact Od _
  rw[d,Qp,Jj]at a;refine Jp ⟨r,rfl,oo,Jp ⟨rfl,?_,?_,?_⟩⟩
  .rw[a]
  .rw[a];exact c
  .rw[a]
 .cases h
theorem Tx_RI.stop{ls:List (List UInt8)}{i:Nat}{o:Qu}{c:Bool}{b z:Qu}(h:Tx_RI ls i o false c)(k:1<=i)(e:ls[i]? =some z)(g:¬z=ju)(a:(aU z).2=false\/c=false):eU ls b=([],i,false):=by
 rcases h with ⟨h,_⟩|⟨r,rfl,_,⟨_,d⟩|⟨h,_⟩⟩
 .omega
 .obtain⟨j,rfl⟩:∃j,i=j+1:=⟨i-1,oo⟩
  simp only[Qx]at e;rw[Ji]at d;have f:(if c=true then cF (r.drop j)else ([],0))=([],0):=by
   cases c
   .rfl
   .rw[if_pos rfl,Cu r j _ e];rcases a with a|a
    .exact vJ _ a
    .cases a
  rw[f,Qp,Jj]at d;rw[xu,d];simp only;rw[e];simp only;rw[if_pos g]
 .cases h
theorem Tx_RI.more{ls:List (List UInt8)}{i:Nat}{o z:Qu}(h:Tx_RI ls i o false true)(d:1<=i)(c:ls[i]? =some z)(a:(aU z).2=true):Tx_RI ls (i+1) (o++(aU z).1) false ((aU z).1.length==48):=by
 rcases h with ⟨h,_⟩|⟨r,rfl,_,⟨_,b⟩|⟨h,_⟩⟩
 .omega
 .obtain⟨j,rfl⟩:∃j,i=j+1:=⟨i-1,oo⟩
  simp only[Qx]at c;rw[Ji,if_pos rfl,Cu r j _ c]at b;refine Jp ⟨r,rfl,oo,Jq ⟨rfl,?_⟩⟩;rw[show j+1+1-1=j+1 by omega,b];have e:=It z;by_cases h2:(aU z).1.length<48
  .rw[ul _ a h2,beq_eq_false_iff_ne.2 oo];simp
  .rw[vK _ a h2,show ((aU z).1.length==48)=true by rw[beq_iff_eq];omega,if_pos rfl,Qe];simp only[Jw,true_and];omega
 .cases h
theorem Tx_RI.short{ls:List (List UInt8)}{o:Qu}{c:Bool}{b:Qu}(h:Tx_RI ls ls.length o false c):eU ls b=([],ls.length,false):=by
 rcases h with ⟨h,_⟩|⟨r,rfl,_,⟨_,a⟩|⟨h,_⟩⟩
 .rw[Qj h];rfl
 .simp only[Qm,Ji]at a;have d:(if c=true then cF (r.drop r.length)else ([],0))=([],0):=by
   cases c
   .rfl
   .rw[if_pos rfl,List.drop_length];rfl
  rw[d,Qp,Jj]at a;rw[xu,a];simp only;rw[Qy nR];rfl
 .cases h
theorem Tx_RI.done{ls:List (List UInt8)}{o:Qu}{f:Bool}{b:Qu}(h:Tx_RI ls ls.length o true f):eU ls b=if b=[]then (o,0,true)else ([],ls.length,false):=by
 rcases h with ⟨_,_,h,_⟩|⟨r,rfl,_,⟨h,_⟩|⟨_,c,d,e⟩⟩
 .cases h
 .cases h
 .simp only[Qm]at c;rw[xu,d];simp only;rw[if_neg ss];by_cases a:b=[]
  .rw[if_neg (by rintro(h|h);omega;exact h a),if_pos a,e]
  .rw[if_pos (Jp a),if_neg a,Qm,c]
theorem acd(s:Qb)(ls:List (List UInt8))(b:Qu)(w:Jr)(K:s.data.toList=aE ls++b)(h1:∀l∈ls,(10:UInt8)∉l)(h2:(10:UInt8)∉b):
  Rw 106 #[QL s] w (QP #[QL (jL s (eU ls b)).1,QN Je (jL s (eU ls b)).2.1,QN Je (jL s (eU ls b)).2.2]):=by
 by_cases hs:s.size<=20000
 .have a5:s.data.toList.length=s.size:=ss
  have a6:s.size=(aE ls).length+b.length:=by rw[<-a5,K,Qi]
  have b5:ls.length<=s.size:=by
   have:∀q:List (List UInt8),q.length<=(aE q).length:=λq=>by
    induction q with
    |nil=>simp
    |cons x y ih=>simp only[aE,Qi,Qm];omega
   have:=this ls;omega
  have ao:Hid ((aE (ls.take 0)).length=0):=rfl;have bh:Hid ((aE (ls.take ls.length)).length+b.length=s.size):=by show _=_;rw[Qt,a6]
  have H:Hid (∀t (h:t<ls.length),(aE (ls.take (t+1))).length=(aE (ls.take t)).length+ls[t].length+1/\(aE (ls.take t)).length+ls[t].length<s.size/\s.data.toList.getD ((aE (ls.take t)).length+ls[t].length) 0=10/\s.extract (aE (ls.take t)).length ((aE (ls.take t)).length+ls[t].length)=pU ls[t]):=λt h=>by
   have u:=zn ls t b h;have e2:=P6 ls t h;have e3:s.size=(aE (ls.take t)).length+(ls[t].length+((aE (ls.drop (t+1))++b).length+1)):=by
    rw[<-a5,K,u];simp only[Qi,Qm]
   refine⟨e2,by omega,?_,?_⟩
   .rw[K,u,Qa,Qn (by omega),Qn (by omega)];rw[show (aE (ls.take t)).length+ls[t].length-(aE (ls.take t)).length-ls[t].length=0 by omega];rfl
   .apply Ck
    rw[G5];exact P9 _ _ _ _ (K.trans u)
  have M:Hid (∀t k (h:t<ls.length),(aE (ls.take t)).length<=k->k<(aE (ls.take t)).length+ls[t].length-> ¬s.data.toList.getD k 0=10):=λt k h p1 p2 G=>by
   have u:=zn ls t b h;have:=LQ _ _ _ _ (K.trans u) k p1 p2;rw[G]at this;exact h1 _ (QG h) this
  have N:Hid (∀k,(aE (ls.take ls.length)).length<=k->k<s.size-> ¬s.data.toList.getD k 0=10):=λk p1 q G=>by
   rw[Qt]at p1;have:=LQ (aE ls) b [] s.data.toList (by rw[Qp];exact K) k p1 (by omega);rw[G]at this;exact h2 this
  have Q:(aE (ls.take ls.length)).length=s.size↔b=[]:=by
   rw[Qt];constructor
   .intro h;exact Qj (by omega)
   .intro h;rw[a6,h];simp
  have a2:jL s (eU ls b)=(if(eU ls b).2.2=true then(if(eU ls b).1.length<=12000 then(⟨(eU ls b).1.toArray⟩,0,0)else (⟨#[]⟩,0,1))else (⟨#[]⟩,((eU ls b).2.1:Int),8)):=by unfold jL;rw[if_pos hs]
  have j:Hid (∀i:Nat,eU ls b=([],i,false)->jL s (eU ls b)=(⟨#[]⟩,(i:Int),8)):=λi h=>by show _=_;rw[a2,h];rfl
  have r:Hid (∀o:List UInt8,eU ls b=(o,0,true)->jL s (eU ls b)=if o.length<=12000 then(⟨o.toArray⟩,0,0)else (⟨#[]⟩,0,1)):=λo h=>by show _=_;rw[a2,h];rfl
  generalize jL s (eU ls b)=bY at j r|-;generalize bb:(λt=>(aE (ls.take t)).length)=m;have bd:∀t,(aE (ls.take t)).length=m t:=λt=>by rw[<-bb]
  simp only[bd]at ao bh H M N Q;clear bb bd a2 a6 K h1 h2 a5;have B0:Hid (One w w.heap.size (QO none 0 0) ((ls.take 0).map pU)/\Jb w.heap.size w w):=⟨Jq ⟨rfl,rfl⟩,Ju _ _⟩;replace Q:=Qh Q;go_enter Q0,QY;have d1:¬(20000:Int)<(s.size:Int):=by omega
  go_upto_block 0 with fail
  go_cut [5,6,7] (λv f i wr=>f=QN Je (m ls.length:Int)/\Hid (One wr w.heap.size v (ls.map pU)/\Jb w.heap.size w wr))
  case first=>
   clear j r Q;go_wp2_with fail;go_loopw [5,6,7] (λv f i wr=> ∃t k:Nat,t<=ls.length/\i=QN Je (k:Int)/\f=QN Je (m t:Int)/\m t<=k/\k<=s.size/\(∀h:t<ls.length,k<=m t+ls[t].length)/\Hid (One wr w.heap.size v ((ls.take t).map pU)/\Jb w.heap.size w wr)) (λ_ _ i _=>s.size-(Jc i).toNat)
   case atStart=>exact⟨0,0,by omega,rfl,by rw[ao.out];rfl,by rw[ao.out];omega,by omega,λh=>by omega,B0⟩
   case round=>
    clear B0;obtain⟨t,k,ht,rfl,rfl,a3,b4,W,A⟩:=hrel;by_cases Z:k<s.size
    .have d2:(k:Int)<(s.size:Int):=by omega
     have d0:(0:Int)<=(k:Int):=by omega
     by_cases B:∃h:t<ls.length,k=m t+ls[t].length
     .obtain⟨D,bq⟩:=B;obtain⟨u,e2,e3,e4⟩:=H.out t D;rw[<-bq]at u e3 e4;have hb:s[k]=10:=by rw[gh s _ Z];exact e3
      obtain⟨v',w2,d,ba,a8⟩:=Xu A.out.1 A.out.2.size (pU ls[t]) (by rw[QA,Qg];omega);have bx:Hid (One w2 w.heap.size v' ((ls.take (t+1)).map pU)/\Jb w.heap.size w w2):=⟨by
       rw[Qz,Qf D,List.map_append];exact ba,A.out.2.trans a8⟩
      generalize pU ls[t]=LN at e4 d;have t1:(m t:Int)<=(k:Int):=by omega
      have t2:(0:Int)<=(m t:Int):=by omega
      have t3:(k:Int)<=(s.size:Int):=by omega
      have E1:=Qh u;clear A ba a8 H M N W e2 e3 bq u;generalize m t=P at t1 t2 e4 a3|-;go_wp2_with (at_builtin;refine Ca rfl _ _ 25 rfl 25 rfl _ _ rfl rfl _ _ d ?_);go_roundw
      case rel=>exact⟨t+1,k+1,by omega,gn,cH (by rw[E1.out];omega),by rw[E1.out];omega,by omega,λh=>by rw[E1.out];omega,bx⟩
      case measure=>simp[Jc];omega
     .have hn:¬s.data.toList.getD k 0=10:=by
       by_cases D:t<ls.length
       .exact M.out t k D a3 (by have h3:=W D;have:¬k=m t+ls[t].length:=λh=>B ⟨D,h⟩;omega)
       .obtain rfl:t=ls.length:=by omega
        exact N.out k a3 Z
      have hx:=gh s k Z;generalize s.data.toList.getD k 0=y at hx hn;have bt:((y.toNat:Int)==10)=false:=by
       rw[beq_eq_false_iff_ne];intro h;exact hn (QT.1 (by show y.toNat=10;omega))
      have b6:¬(y.toNat:Int)=10:=by rw[beq_eq_false_iff_ne]at bt;exact bt
      have a4:∀h:t<ls.length,k+1<=m t+ls[t].length:=λh=>by have h3:=W h;have:¬k=m t+ls[t].length:=λq=>B ⟨h,q⟩;omega
      clear H M N W B;replace a4:=Qh a4;go_wp2_with fail;go_roundw
      case rel=>exact⟨t,k+1,ht,gn,rfl,by omega,by omega,a4.out,A⟩
      case measure=>simp[Jc];omega
    .have d2:¬(k:Int)<(s.size:Int):=by omega
     have bX:t=ls.length:=by
      by_cases D:t<ls.length
      .have:=W D;have:=(H.out t D).2.1;omega
      .omega
     subst bX;rw[Qt]at A;clear H M N W;go_wp2_with fail;go_meet
     case rel=>exact⟨rfl,A⟩
  case rest=>
   clear B0 H M N ao bh;obtain⟨rfl,A⟩:=hcut;obtain⟨sp,cp,rfl,a0⟩:=A.out.1.slice;rw[QA]at a0|-;have S:Hid (∀k (h:k<ls.length),∃g,sp=some ⟨g,0,none⟩/\w.heap.size<=g/\g<wc.heap.size/\wc.cell? ⟨g,k,none⟩=some (QL (pU ls[k]))):=λk h=>by
    obtain⟨g,q1,q2,q3,q4⟩:=a0 k h;refine⟨g,q1,q2,q3,?_⟩;rw[q4];unfold aM;rw[Qa,List.getElem?_map,Qf h];rfl
   have hB:=Qh A.out.2;clear A a0;have a9:Hid (Tx_RI ls 0 [] false true):=Jq ⟨rfl,rfl,rfl,rfl⟩;have bi:Hid (Jb wc.heap.size wc wc):=Ju _ _;go_wp2_with fail;go_loopw [8,9,10,11] (λo e h i wr=> ∃(a:Nat) (oo:List UInt8) (en E:Bool),o=QL ⟨oo.toArray⟩/\e=QM en/\h=QM E/\i=QN Je (a:Int)/\a<=ls.length/\oo.length<=48*a/\Hid (Tx_RI ls a oo en E)/\Hid (Jb wc.heap.size wc wr)) (λ_ _ _ i _=>ls.length-(Jc i).toNat)
   case atStart=>exact⟨0,[],false,true,rfl,rfl,rfl,rfl,by omega,ss,a9,bi⟩
   case round=>
    clear a9 bi;obtain⟨a,oo,en,E,rfl,rfl,rfl,rfl,b3,b7,n,ah⟩:=hrel;by_cases Z:a<ls.length
    .have d2:(a:Int)<(ls.length:Int):=by omega
     have d0:(0:Int)<=(a:Int):=by omega
     obtain⟨g,bz,b2,bk,G⟩:=S.out a Z;subst bz;have I:=Qf Z;have O:Hid (Rv 158 #[QL (pU ls[a])] (QP #[QL ⟨(ki ls[a]).1.toArray⟩,QM (ki ls[a]).2])):=λwx=>acD (pU ls[a]) wx
     obtain⟨bs,az⟩:=P8 ls[a];rw[bs]at O;have a7:=It ls[a];generalize ls[a]=z at I O az G a7;have cr:=(ah.out.cell (p:=⟨g,a,none⟩) bk).trans G;have ay:∀c:Jr,Jb wr.heap.size wr c->Jb wc.heap.size wc c:=λc k=>ah.out.trans (k.mono ah.out.size)
     have ax:∀c:Jr,Jb wc.heap.size wc c->c.cell? ⟨g,a,none⟩=some (QL (pU z)):=λc k=>(k.cell (p:=⟨g,a,none⟩) bk).trans G
     have ap:∀c:Jr,Jb wc.heap.size wc c->Jb w.heap.size w c:=λc k=>hB.out.trans (k.mono hB.out.size)
     replace ay:Hid (∀c:Jr,Jb wr.heap.size wr c->Jb wc.heap.size wc c):=ay;replace ax:Hid (∀c:Jr,Jb wc.heap.size wc c->c.cell? ⟨g,a,none⟩=some (QL (pU z))):=ax;replace ap:Hid (∀c:Jr,Jb wc.heap.size wc c->Jb w.heap.size w c):=ap;have T:Hid (z=eG->pU z=⟨#[45,45,45,45,45,66,69,71,73,78,32,77,73,83,83,73,86,69,45,45,45,45,45]⟩):=λh=>by subst h;rfl
     have X:Hid (z=ju->pU z=⟨#[45,45,45,45,45,69,78,68,32,77,73,83,83,73,86,69,45,45,45,45,45]⟩):=λh=>by subst h;rfl
     have ab:Hid (¬z=eG->((pU z).toList== [45,45,45,45,45,66,69,71,73,78,32,77,73,83,83,73,86,69,45,45,45,45,45])=false):=λh=>by
      rw[beq_eq_false_iff_ne,Q6];exact h
     have B:Hid (¬z=ju->((pU z).toList== [45,45,45,45,45,69,78,68,32,77,73,83,83,73,86,69,45,45,45,45,45])=false):=λh=>by
      rw[beq_eq_false_iff_ne,Q6];exact h
     generalize ad:(aU z).2=rb at O az;replace ad:Hid ((aU z).2=rb):=ad;have R:rb=true->(⟨(ki z).1.toArray⟩:ByteArray)=⟨(aU z).1.toArray⟩:=λh=>by rw[az h]
     generalize (⟨(ki z).1.toArray⟩:ByteArray)=RB at O R;replace R:Hid (rb=true->RB=⟨(aU z).1.toArray⟩):=R;clear az bs S G;go_wp2_with fail;refine gv O λw3 k3=>?_
     have ag:Hid (Jb wc.heap.size wc w3):=ay.out _ k3;have C:Hid (Jb w.heap.size w w3):=ap.out _ ag.out;have c3:=ax.out _ ag.out;clear O k3 cr ay ax ap ah;cases en with
     |true=>
      have d:=j.out a (n.out.over I);clear j r n;go_wp2;go_ret3
      rw[d];exact⟨rfl,C.out⟩
     |false=>
      by_cases h0:a=0
      .have e0:(a:Int)=0:=by omega
       subst h0;obtain⟨ho,hw⟩:oo=[]/\E=true:=by
        rcases n.out with ⟨_,q1,_,q2⟩|⟨_,_,q,_⟩
        .exact⟨q1,q2⟩
        .omega
       subst ho hw;by_cases hf:z=eG
       .rw[T.out hf]at c3;subst hf;have F:Hid (Tx_RI ls 1 [] false true):=Tx_RI.one I;clear j r n ab T B X;go_wp2_with fail;go_roundw
        case rel=>exact⟨1,[],false,true,rfl,rfl,rfl,gn,by omega,ss,F,ag⟩
        case measure=>simp[Jc];omega
       .have d:=j.out 0 (Tx_RI.zero I hf);have hn:=ab.out hf;clear j r n ab T B X;go_wp2;go_ret3
        rw[d];exact⟨rfl,C.out⟩
      .have e0:((a:Int)==0)=false:=by rw[beq_eq_false_iff_ne];omega
       have b1:¬(a:Int)=0:=by omega
       by_cases hl:z=ju
       .rw[X.out hl]at c3;subst hl;have F:Hid (Tx_RI ls (a+1) oo true E):=n.out.last (by omega) I;clear j r n ab T B X;go_wp2_with fail;go_roundw
        case rel=>exact⟨a+1,oo,true,E,rfl,rfl,rfl,gn,by omega,by omega,F,ag⟩
        case measure=>simp[Jc];omega
       .have hn:=B.out hl;by_cases a1:rb=true/\E=true
        .obtain⟨rfl,rfl⟩:=a1;obtain rfl:=R.out rfl;have F:=n.out.more (by omega) I ad.out;have hx:(⟨(aU z).1.toArray⟩:ByteArray).size=(aU z).1.length:=by show((aU z).1.toArray).size=_;simp
         have hy:(⟨oo.toArray⟩:ByteArray).size=oo.length:=by show(oo.toArray).size=_;simp
         have ha:Jn .add ⟨oo.toArray⟩ ⟨(aU z).1.toArray⟩=pure (QL (⟨oo.toArray⟩++⟨(aU z).1.toArray⟩)):=rP _ _ (by omega);rw[Q7]at ha;generalize (aU z).1=lb at F hx ha a7;replace F:Hid (Tx_RI ls (a+1) (oo++lb) false (lb.length==48)):=F;have hq:Hid (((lb.length:Int)==48)=(lb.length==48)):=by
          show _=_
          by_cases h:lb.length=48
          .rw[h];rfl
          .rw[beq_eq_false_iff_ne.2 h,beq_eq_false_iff_ne];omega
         clear hx j r n ab T B X ad R;go_wp2_with fail;go_roundw
         case rel=>exact⟨a+1,oo++lb,false,_,rfl,rfl,congrArg QM hq.out,gn,by omega,by rw[Qi];omega,F,ag⟩
         case measure=>simp[Jc];omega
        .have d:=j.out a (n.out.stop (by omega) I hl (by
          cases rb with
          |false=>exact Jq ad.out
          |true=>cases E with
           |false=>exact Jp rfl
           |true=>exact absurd ⟨rfl,rfl⟩ a1))
         clear j r n ab T B X ad R;cases rb with
         |false=>
          go_wp2;go_ret3
          rw[d];exact⟨rfl,C.out⟩
         |true=>cases E with
          |false=>
           go_wp2;go_ret3
           rw[d];exact⟨rfl,C.out⟩
          |true=>exact absurd ⟨rfl,rfl⟩ a1
    .have an:a=ls.length:=by omega
     have d2:¬(a:Int)<(ls.length:Int):=by omega
     have C:Hid (Jb w.heap.size w wr):=hB.out.trans (ah.out.mono hB.out.size);have J:=n.out;rw[an]at J;cases en with
     |false=>
      have d:=j.out ls.length J.short;clear j r n J S an;go_wp2;go_ret3
      try rw[d]
      exact⟨rfl,C.out⟩
     |true=>
      have L:=J.done (b:=b);by_cases hb:b=[]
      .have hP:=Q.out.2 hb;rw[if_pos hb]at L;have d:=r.out oo L;have hy:(⟨oo.toArray⟩:ByteArray).size=oo.length:=by show(oo.toArray).size=_;simp
       have dP:(m ls.length:Int)=(s.size:Int):=by omega
       generalize (⟨oo.toArray⟩:ByteArray)=OB at d hy|-;by_cases ho:oo.length<=12000
       .rw[if_pos ho]at d;have d3:¬(12000:Int)<(OB.size:Int):=by omega
        clear j r n J S an L hP hy;go_wp2;go_ret3
        try rw[d]
        exact⟨rfl,C.out⟩
       .rw[if_neg ho]at d;have d3:(12000:Int)<(OB.size:Int):=by omega
        clear j r n J S an L hP hy;go_wp2;go_ret3
        try rw[d]
        exact⟨rfl,C.out⟩
      .have hP:¬m ls.length=s.size:=λh=>hb (Q.out.1 h)
       rw[if_neg hb]at L;have d:=j.out ls.length L;have dP:((m ls.length:Int) !=(s.size:Int))=true:=by rw[bne_iff_ne];omega
       have b0:¬(m ls.length:Int)=(s.size:Int):=by omega
       clear j r n J S an L;go_wp2;go_ret3
       try rw[d]
       exact⟨rfl,C.out⟩
 .have u:jL s (eU ls b)=(⟨#[]⟩,0,1):=by unfold jL;rw[if_neg hs]
  rw[u];have d1:(20000:Int)<(s.size:Int):=by omega
  go_enter Q0,QY;go_wp2;go_ret3
  exact⟨rfl,Ju _ _⟩
end Go.Proofs.YtclpbaokadfhhaaGreatDoor
