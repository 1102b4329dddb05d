import Derived.Test.YtclpbaokadfhhaaGreatDoorYa2
import Derived.Test.YtclpbaokadfhhaaGreatDoorXl
set_option maxRecDepth 100000
set_option maxHeartbeats 4000000
open List renaming length_append->Qa,getElem?_eq_getElem->Qc,length_cons->Qd,eq_nil_of_length_eq_zero->Qe,length_drop->Qf,getD_eq_getElem?_getD->Qg,drop_of_length_le->Qi,length_reverse->Qj,append_assoc->Qk,length_take->Qm
open Go.Proofs.Tryz renaming strings_TrimRight_one->Qn,prog->Qo,ntmps194->Qp,func194->Qq,underlying25->Qt,ntmps19->Qx,func19->Qy,ntmps138->Qz,func138->QA,sizeOf9->QB,ntmps18->QC,func18->QD
open Go.Value renaming string->QE,int->QF,slice->QG,tuple->QH,bool->QI,pointer->QJ
open Go.IntKind renaming u8->QL,wrap_u8->QM,i64->QN,wrap_i64->QO
open Go.Lib renaming trimRightB->QP,indexByte->QQ,countB_le->QR
open Go.Ending renaming returned->QT
open Go.Obj renaming cells->QU
open Go renaming World->QV,Calls->QW,sizeOf->QY
open ByteArray renaming size_extract->QZ,size_append->Q0,data_extract->Q5,data_append->Q6
open Go.Result renaming andThen->Q7
open Go.BinOp renaming or->Q9
open Go.Oper renaming upon_value->Ja
open Go.RowKit renaming Below->Jb,intOf->Jc
namespace Go.Proofs.YtclpbaokadfhhaaGreatDoor
open Go.RowKit
open Blk renaming new->Q8
theorem PK(x:UInt8):∃n:Nat,n<256/\QL.wrap (QQ Tx_alpha x)=(n:Int)/\aH x=n.toUInt8:=by
 refine⟨(QQ Tx_alpha x%256).toNat,?_,?_,rfl⟩
 .omega
 .rw[QM];omega
theorem W5(x:UInt8):QL.wrap (QQ Tx_alpha x)=Y (aH x):=by
 obtain⟨n,b,h2,a⟩:=PK x;rw[h2,a];unfold Y;simp;omega
theorem uN(x:UInt8)(w:QV):
  QW Qo 235 #[QF QL (Y x)] w λe w'=>e=QT (QF QL (Y (aH x)))/\w'=w:=by
 have a:QL.wrap (QQ alphaB.data.toList x)=Y (aH x):=W5 x;have b:(Y x).toNat.toUInt8=x:=by unfold Y;simp
 go_enter Tryz.func235,Tryz.ntmps235;go_wp2_with fail;refine(Tryz.strings_IndexByte alphaB (Y x) w).mono ?_;rintro e w' ⟨rfl,rfl⟩;rw[b];generalize QQ alphaB.data.toList x=q at a;go_wp2;go_ret;exact⟨rfl,rfl⟩
theorem Cc{w:QV}{b t cap:Nat}{l:Qu}(c:Blk w b (Bs l) t)(n:Nat)(e:n<=l.length):
  (convert 55 9 (QG (some ⟨b,0,none⟩) n cap)).run Qo w=.ok (QE ⟨(l.take n).toArray⟩) w:=by
 have a:(l.take n).length=n:=by rw[Qm];omega
 conv=>lhs;rw[<-a]
 refine run_convert_bytes_back w _ _ 5 _ cap (l.take n) Tryz.underlying55 Tryz.underlying5 Tryz.underlying9 ?_;intro j d;have:(⟨b,0,none⟩:Addr).add j=⟨b,j,none⟩:=by unfold Addr.add;split<;>simp_all
 rw[this,c.cell,zT];rw[a]at d;simp[Qc (show j<l.length by omega)]
theorem Xa(s:Qb)(w:QV)(a:s.size<=1000)(ht:QP s.data.toList 61=[]):
  Rw 194 #[QE s] w (QE ⟨(jz []).toArray⟩):=by
 go_enter Qq,Qp;go_wp2_with fail;refine(Qn s 61 dd _ oo).mono ?_;rintro e w' ⟨rfl,rfl⟩;rw[ht];go_wp2;go_ret;exact⟨rfl,bR.alloc nR _⟩
theorem W9(s:Qb)(a:UInt8)(w:QV)(b:s.size<=1000)(ht:QP s.data.toList 61=[a]):
  Rw 194 #[QE s] w (QE ⟨(jz [a]).toArray⟩):=by
 go_enter Qq,Qp;go_wp2_with fail;refine(Qn s 61 dd _ oo).mono ?_;rintro e w' ⟨rfl,rfl⟩;rw[ht];go_wp2;go_ret;exact⟨rfl,bR.alloc nR _⟩
theorem W8(s:Qb)(a b:UInt8)(w:QV)(g:s.size<=1000)(ht:QP s.data.toList 61=[a,b]):
  Rw 194 #[QE s] w (QE ⟨(jz [a,b]).toArray⟩):=by
 have h:(((⟨#[a,b]⟩:ByteArray)[0]'(by show 0<2;omega)).toNat:Int)=Y a:=rfl;have i:(((⟨#[a,b]⟩:ByteArray)[1]'(by show 1<2;omega)).toNat:Int)=Y b:=rfl;have j:QL.wrap (Y (aH a)*4)=Y (aH a<<<2):=(QM _).trans (vo (aH a) 2);have c:Y (aH b)/(16:Int)=Y (aH b>>>4):=vk (aH b) 4;have k:bits Q9 QL (Y (aH a<<<2)) (Y (aH b)/(16:Int))=Y (aH a<<<2|||aH b>>>4):=by rw[c];exact or8 _ _
 clear c;go_enter Qq,Qp;go_wp2_with fail;refine(Qn s 61 dd _ oo).mono ?_;rintro e w' ⟨rfl,rfl⟩;rw[ht];go_wp2_with fail;go_region_held3 (λ_=>True) (exact trivial) (first|(go_at_call 235;refine(uN _ _).mono ?_;rintro e w' ⟨rfl,rfl⟩))
 all_goals go_wp2_with fail
 all_goals
  have d:Blk (w.alloc (QU #[QF QL (Y (aH a<<<2|||aH b>>>4)),QF QL 0,QF QL 0] 225)).drew w.heap.size (Bs [aH a<<<2|||aH b>>>4,0,0]) 225:=(Q8 w (Bs [aH a<<<2|||aH b>>>4,0,0]) 225).drew;have f:=Cc (cap:=3) d 1 (by show 1<=3;omega);rw[f];simp only[Q7];rw[Ja];go_wp2;go_ret;exact⟨rfl,(bR.alloc nR _).drew⟩
theorem W7(s:Qb)(a b c:UInt8)(w:QV)(i:s.size<=1000)(ht:QP s.data.toList 61=[a,b,c]):
  Rw 194 #[QE s] w (QE ⟨(jz [a,b,c]).toArray⟩):=by
 have j:(((⟨#[a,b,c]⟩:ByteArray)[0]'(by show 0<3;omega)).toNat:Int)=Y a:=rfl;have k:(((⟨#[a,b,c]⟩:ByteArray)[1]'(by show 1<3;omega)).toNat:Int)=Y b:=rfl;have l:(((⟨#[a,b,c]⟩:ByteArray)[2]'(by show 2<3;omega)).toNat:Int)=Y c:=rfl;have m:QL.wrap (Y (aH a)*4)=Y (aH a<<<2):=(QM _).trans (vo (aH a) 2);have d:Y (aH b)/(16:Int)=Y (aH b>>>4):=vk (aH b) 4;have o:bits Q9 QL (Y (aH a<<<2)) (Y (aH b)/(16:Int))=Y (aH a<<<2|||aH b>>>4):=by rw[d];exact or8 _ _
 clear d;have n:QL.wrap (Y (aH b)*16)=Y (aH b<<<4):=(QM _).trans (vo (aH b) 4);have f:Y (aH c)/(4:Int)=Y (aH c>>>2):=vk (aH c) 2;have p:bits Q9 QL (Y (aH b<<<4)) (Y (aH c)/(4:Int))=Y (aH b<<<4|||aH c>>>2):=by rw[f];exact or8 _ _
 clear f;go_enter Qq,Qp;go_wp2_with fail;refine(Qn s 61 dd _ oo).mono ?_;rintro e w' ⟨rfl,rfl⟩;rw[ht];go_wp2_with fail;go_region_held3 (λ_=>True) (exact trivial) (first|(go_at_call 235;refine(uN _ _).mono ?_;rintro e w' ⟨rfl,rfl⟩))
 all_goals go_wp2_with fail
 all_goals go_region_held3 (λ_=>True) (exact trivial) (first|(go_at_call 235;refine(uN _ _).mono ?_;rintro e w' ⟨rfl,rfl⟩))
 all_goals go_wp2_with fail
 all_goals
  have g:Blk (w.alloc (QU #[QF QL (Y (aH a<<<2|||aH b>>>4)),QF QL (Y (aH b<<<4|||aH c>>>2)),QF QL 0] 225)).drew.drew w.heap.size (Bs [aH a<<<2|||aH b>>>4,aH b<<<4|||aH c>>>2,0]) 225:=(Q8 w (Bs [aH a<<<2|||aH b>>>4,aH b<<<4|||aH c>>>2,0]) 225).drew.drew;have h:=Cc (cap:=3) g 2 (by show 2<=3;omega);rw[h];simp only[Q7];rw[Ja];go_wp2;go_ret;exact⟨rfl,(bR.alloc nR _).drew.drew⟩
theorem W6(s:Qb)(a b c d:UInt8)(w:QV)(j:s.size<=1000)(ht:QP s.data.toList 61=[a,b,c,d]):
  Rw 194 #[QE s] w (QE ⟨(jz [a,b,c,d]).toArray⟩):=by
 have k:(((⟨#[a,b,c,d]⟩:ByteArray)[0]'(by show 0<4;omega)).toNat:Int)=Y a:=rfl;have l:(((⟨#[a,b,c,d]⟩:ByteArray)[1]'(by show 1<4;omega)).toNat:Int)=Y b:=rfl;have m:(((⟨#[a,b,c,d]⟩:ByteArray)[2]'(by show 2<4;omega)).toNat:Int)=Y c:=rfl;have n:(((⟨#[a,b,c,d]⟩:ByteArray)[3]'(by show 3<4;omega)).toNat:Int)=Y d:=rfl;have o:QL.wrap (Y (aH a)*4)=Y (aH a<<<2):=(QM _).trans (vo (aH a) 2);have f:Y (aH b)/(16:Int)=Y (aH b>>>4):=vk (aH b) 4;have r:bits Q9 QL (Y (aH a<<<2)) (Y (aH b)/(16:Int))=Y (aH a<<<2|||aH b>>>4):=by rw[f];exact or8 _ _
 clear f;have p:QL.wrap (Y (aH b)*16)=Y (aH b<<<4):=(QM _).trans (vo (aH b) 4);have g:Y (aH c)/(4:Int)=Y (aH c>>>2):=vk (aH c) 2;have t:bits Q9 QL (Y (aH b<<<4)) (Y (aH c)/(4:Int))=Y (aH b<<<4|||aH c>>>2):=by rw[g];exact or8 _ _
 clear g;have q:QL.wrap (Y (aH c)*64)=Y (aH c<<<6):=(QM _).trans (vo (aH c) 6);have u:bits Q9 QL (Y (aH c<<<6)) (Y (aH d))=Y (aH c<<<6|||aH d):=or8 _ _;go_enter Qq,Qp;go_wp2_with fail;refine(Qn s 61 dd _ oo).mono ?_;rintro e w' ⟨rfl,rfl⟩;rw[ht];go_wp2_with fail;go_region_held3 (λ_=>True) (exact trivial) (first|(go_at_call 235;refine(uN _ _).mono ?_;rintro e w' ⟨rfl,rfl⟩))
 all_goals go_wp2_with fail
 all_goals go_region_held3 (λ_=>True) (exact trivial) (first|(go_at_call 235;refine(uN _ _).mono ?_;rintro e w' ⟨rfl,rfl⟩))
 all_goals go_wp2_with fail
 all_goals go_region_held3 (λ_=>True) (exact trivial) (first|(go_at_call 235;refine(uN _ _).mono ?_;rintro e w' ⟨rfl,rfl⟩))
 all_goals go_wp2_with fail
 all_goals
  have h:Blk (w.alloc (QU #[QF QL (Y (aH a<<<2|||aH b>>>4)),QF QL (Y (aH b<<<4|||aH c>>>2)),QF QL (Y (aH c<<<6|||aH d))] 225)).drew.drew.drew w.heap.size (Bs [aH a<<<2|||aH b>>>4,aH b<<<4|||aH c>>>2,aH c<<<6|||aH d]) 225:=(Q8 w (Bs [aH a<<<2|||aH b>>>4,aH b<<<4|||aH c>>>2,aH c<<<6|||aH d]) 225).drew.drew.drew;have i:=Cc (cap:=3) h 3 (by show 3<=3;omega);rw[i];simp only[Q7];rw[Ja];go_wp2;go_ret;exact⟨rfl,(bR.alloc nR _).drew.drew.drew⟩
theorem Py(s:Qb)(w:QV)(f:s.size=4):
  Rw 194 #[QE s] w (QE ⟨(mj s.data.toList).toArray⟩):=by
 have e:(QP s.data.toList 61).length<=4:=by
  unfold QP;rw[Qj];refine Nat.le_trans (List.dropWhile_suffix _).length_le ?_;rw[Qj,kZ];omega
 unfold mj;generalize ht:QP s.data.toList 61=L at e;match L,e with
 | [],_=>exact Xa s w oo ht
 | [a],_=>exact W9 s a w oo ht
 | [a,b],_=>exact W8 s a b w oo ht
 | [a,b,c],_=>exact W7 s a b c w oo ht
 | [a,b,c,d],_=>exact W6 s a b c d w oo ht
 |a::b::c::d::x::r,h=>simp only[Qd]at h;omega
theorem Nf(f:Qu):(mj f).length<=3:=by
 unfold mj jz;split<;>simp
theorem PV(s:Qb)(w:QV)(R:s.size<=1000000):
  Rw 138 #[QE s] w (QH #[QE ⟨(aU s.data.toList).1.toArray⟩,QI (aU s.data.toList).2]):=by
 have a:=kZ s;by_cases h0:s.size=0
 .have E:=GY h0;have c:aU s.data.toList=([],false):=by
   unfold aU;rw[if_pos (.inl (Qe (by rw[a];exact h0)))]
  rw[c];go_enter QA,Qz;go_wp2;go_ret2;exact⟨rfl,Below.refl _ _⟩
 .have E:=Eb (r:=s) oo;have H:s.data.toList≠ []:=λe=>by rw[e]at a;simp at a;omega
  by_cases x:64<s.size
  .have c:aU s.data.toList=([],false):=by
    unfold aU;rw[if_pos (.inr (by rw[a];exact x))]
   rw[c];have y:(64:Int)<(s.size:Int):=oo
   go_enter QA,Qz;go_wp2;go_ret2;exact⟨rfl,Below.refl _ _⟩
  .have c:aU s.data.toList=(f9 s.data.toList,aP (f9 s.data.toList)==s.data.toList):=by
    unfold aU;rw[if_neg (by rintro(h|h);exact H h;rw[a]at h;omega)]
   rw[c];have t:=Il w;have q:Jb w.heap.size w (w.alloc (QU #[QJ none,QG none 0 0] 90)):=bR.alloc nR _;have y:(s.size:Int)<=64:=oo
   go_enter QA,Qz;go_wp2;go_loopw [5] (λv wr=> ∃(k:Nat) (l:List UInt8),v=QF QN (k:Int)/\k<=s.size/\l.length<=4*k/\l++f9 (s.data.toList.drop k)=f9 s.data.toList/\Bld w.heap.size w.heap.size l wr/\Jb w.heap.size w wr) (λv _=>70-(Jc v).toNat)
   case atStart=>exact⟨0,[],rfl,oo,ss,rfl,t,q⟩
   case round=>
    clear t q;obtain⟨k,l,rfl,O,P,j,g,m⟩:=hrel;have J:=m.size;by_cases Q:k+4<=s.size
    .have d:=F0 (s.data.toList.drop k) (by rw[Qf,a];omega);rw[List.drop_drop]at d;have L:(s.extract k (k+4)).size=4:=by rw[QZ];omega
     have M:(s.extract k (k+4)).data.toList=(s.data.toList.drop k).take 4:=by
      rw[Q5,Array.toList_extract];simp[List.extract_eq_take_drop]
     have G:(k:Int)+4<=(s.size:Int):=oo
     go_wp2_with fail;refine mo (Py (s.extract k (k+4)) wr L) λf b=>?_;rw[M];generalize A:mj ((s.data.toList.drop k).take 4)=T at d;have N:T.length<=3:=by rw[<-A];exact Nf _
     have K:(⟨T.toArray⟩:ByteArray).size=T.length:=rfl;have n:=g.keep b;have o:w.heap.size<=f.heap.size:=by have:=b.size;omega
     go_wp2_with fail;refine(wI w.heap.size w.heap.size l ⟨T.toArray⟩ f n (by rw[K];omega) o).mono ?_;rintro e p ⟨rfl,u,i⟩;go_wp2;go_roundw
     case rel=>
      refine⟨k+4,l++T,gn,oo,by rw[Qa];omega,?_,u,?_⟩
      .rw[<-j,d,Qk]
      .exact(m.trans (b.mono oo)).trans i
     case measure=>simp[Jc];omega
    .have d:=Ef (s.data.toList.drop k) (by rw[Qf,a];omega);rw[d,List.append_nil]at j;rw[j]at g;have F:(f9 s.data.toList).length<=1000:=by rw[<-j];omega
     have G:(s.size:Int)<(k:Int)+4:=oo
     generalize z:f9 s.data.toList=D at g F;have C:(⟨D.toArray⟩:ByteArray).size=D.length:=rfl;go_wp2_with fail;refine(sf w.heap.size w.heap.size D wr g J).mono ?_;rintro e f ⟨rfl,n,b⟩;have o:w.heap.size<=f.heap.size:=by have:=b.size;omega
     go_wp2_with fail;refine(sf w.heap.size w.heap.size D f n o).mono ?_;rintro e p ⟨rfl,u,i⟩;have I:w.heap.size<=p.heap.size:=by have:=i.size;omega
     go_wp2_with fail;refine mo (Dg ⟨D.toArray⟩ p (by rw[C];omega)) λS B=>?_;go_wp2;go_ret2;refine⟨?_,((m.trans b).trans i).trans (B.mono I)⟩;subst z;show QT (QH #[QE ⟨(f9 s.data.toList).toArray⟩,QI (aP (f9 s.data.toList)==s.toList)])=_
     rw[ByteArray.toList_eq]
theorem KF(s:Qb)(w:QV)(T:s.size<=1000000):
  Rw 33 #[QE s] w (QE ⟨(oF s.data.toList).toArray⟩):=by
 have q:=Il w;have m:Jb w.heap.size w (w.alloc (QU #[QJ none,QG none 0 0] 90)):=bR.alloc nR _;have J:oF s.data.toList=eG++ [10]++aE ((fG s.data.toList).map aP)++(ju++ [10]):=by
  show eG++10::aE ((fG s.data.toList).map aP++ [ju])=_
  rw[ko];simp[aE]
 rw[J];generalize A:aE ((fG s.data.toList).map aP)=U;go_enter Tryz.func33,Tryz.ntmps33;go_wp2_with fail;refine(wI w.heap.size w.heap.size [] ⟨#[45,45,45,45,45,66,69,71,73,78,32,77,73,83,83,73,86,69,45,45,45,45,45,10]⟩ _ q (by show 0+24<=_;omega) ss).mono ?_;rintro e h ⟨rfl,b,a⟩;have b:Bld w.heap.size w.heap.size (eG++ [10]) h:=b;have o:=m.trans a;go_wp2;go_loopw [0] (λv wr=> ∃(r:ByteArray) (l:List UInt8),v=QE r/\r.size<=s.size/\l.length+70*r.size<=70*s.size+24/\l++aE ((fG r.data.toList).map aP)=eG++ [10]++U/\Bld w.heap.size w.heap.size l wr/\Jb w.heap.size w wr) (λv _=>(Zf v).size)
 case atStart=>exact⟨s,_,rfl,Nat.le_refl _,by show 0+24+_<=_;omega,by rw[A],b,o⟩
 case round=>
  clear q m b a o;obtain⟨r,l,rfl,S,N,g,p,j⟩:=hrel;have I:=j.size;by_cases h0:r.size=0
  .have C:=GY h0;have k:=Qe (by rw[kZ];exact h0);rw[k,sj]at g;have g:l=eG++ [10]++U:=by rw[<-g];simp[aE]
   go_wp2_with fail;refine(wI w.heap.size w.heap.size l ⟨#[45,45,45,45,45,69,78,68,32,77,73,83,83,73,86,69,45,45,45,45,45,10]⟩ _ p (by show l.length+22<=_;omega) I).mono ?_;rintro e i ⟨rfl,d,f⟩;have d:Bld w.heap.size w.heap.size (l++(ju++ [10])) i:=d;have G:w.heap.size<=i.heap.size:=by have:=f.size;omega
   go_wp2_with fail;refine(sf w.heap.size w.heap.size _ i d G).mono ?_;rintro e X ⟨rfl,M,B⟩;go_wp2;go_ret;exact⟨by show QT (QE _)=_;simp,(j.trans f).trans B⟩
  .have t:1<=r.size:=oo
   have C:=Eb t;have k:r.data.toList≠ []:=λe=>by have:=kZ r;rw[e]at this;simp at this;omega
   obtain⟨n,D⟩:∃n:Nat,n=min 48 r.size:=⟨_,rfl⟩
   have H:fG r.data.toList=r.data.toList.take n::fG (r.data.toList.drop n):=by
    rw[rv _ k];by_cases L:r.size<=48
    .have:n=r.size:=oo
     subst this;rw[<-kZ r,List.take_length,List.drop_length,List.take_of_length_le (by rw[kZ];omega),Qi (by rw[kZ];omega)]
    .have:n=48:=oo
     subst this;rfl
   have W:(r.extract 0 n).size=n:=by rw[QZ];omega
   have K:(r.extract n r.size).size=r.size-n:=by rw[QZ];omega
   have O:min 48 (r.size:Int)=(n:Int):=oo
   have P:(0:Int)<=(n:Int):=oo
   have R:(n:Int)<=(r.size:Int):=oo
   have Q:n<=r.size:=oo
   have c:1<=n/\n<=48:=oo
   have c:=Qh c;clear D;go_wp2_with fail;refine mo (Dg (r.extract 0 n) wr oo) λh a=>?_;rw[Di];have b:=p.keep a;have F:w.heap.size<=h.heap.size:=by have:=a.size;omega
   have u:(aP (r.data.toList.take n)).length<=64:=by
    rw[jW,Qm];have:=c.out;omega
   generalize x:aP (r.data.toList.take n)=E at u;go_wp2_with fail;have z:((⟨E.toArray⟩:ByteArray)++⟨#[10]⟩).size=E.length+1:=by rw[Q0];rfl
   have y:((⟨E.toArray⟩:ByteArray)++⟨#[10]⟩).data.toList=E++ [10]:=by rw[Q6,Array.toList_append]
   refine(wI w.heap.size w.heap.size l _ h b ?V F).mono ?_;case V=>rw[z];omega
   rw[y];rintro e i ⟨rfl,d,f⟩;go_wp2;go_roundw
   case rel=>
    have c:=c.out;refine⟨r.extract n r.size,_,rfl,oo,?_,?_,d,?_⟩
    .rw[Qa,K];show l.length+(E++ [10]).length+_<=_
     rw[Qa];simp only[List.length_singleton];omega
    .rw[data_extract _ _ _ rfl,<-g,H];simp[aE,x]
    .exact(j.trans (a.mono oo)).trans f
   case measure=>
    show(r.extract n r.size).size<r.size
    have:=c.out;omega
theorem Z7(n:Nat):∀l:List UInt8,l.length<=n->(f9 l).length<=l.length:=by
 induction n with
 |zero=>
  intro l h;have:l=[]:=by simpa using h
  subst this;simp[f9]
 |succ n b=>
  intro l h;by_cases a:4<=l.length
  .rw[F0 l a,Qa];have c:=Nf (l.take 4);have h2:=b (l.drop 4) (by rw[Qf];omega);rw[Qf]at h2;omega
  .rw[Ef l oo];simp
theorem Ib(l:Qu):(aU l).1.length<=64:=by
 unfold aU;split
 .simp
 .rename_i h
  have:=Z7 l.length l nR;have h2:=λe=>h (.inr e)
  simp only;omega
theorem Vv(ls:List (List UInt8))(b n cap:Nat)(w:QV)(u:n=ls.length)(h1:1<=n)(ah:n<=100000)(O:b<w.heap.size)
  (Z:∀l∈ls,l.length<=1000000)
  (P:∀j,j<n->w.cell? ⟨b,j,none⟩=some (QE ⟨(ls.getD j []).toArray⟩)):
  Rw 73 #[QG (some ⟨b,0,none⟩) n cap] w (QH #[QE ⟨(cF (ls.drop 1)).1.toArray⟩,QF QN (((cF (ls.drop 1)).2+1:Nat):Int)]):=by
 have G:=Il w;have D:Jb w.heap.size w (w.alloc (QU #[QJ none,QG none 0 0] 90)):=bR.alloc nR _;generalize i:cF (ls.drop 1)=I;go_enter Tryz.func73,Tryz.ntmps73;go_wp2;go_loopw [5] (λv wr=> ∃(k:Nat) (l:List UInt8),v=QF QN (k:Int)/\1<=k/\k<=n/\l.length<=64*k/\I.1=l++(cF (ls.drop k)).1/\I.2+1=k+(cF (ls.drop k)).2/\Bld w.heap.size w.heap.size l wr/\Jb w.heap.size w wr) (λv _=>n-(Jc v).toNat)
 case atStart=>exact⟨1,[],rfl,oo,oo,ss,by rw[i];rfl,by rw[i];omega,G,D⟩
 case round=>
  clear G D;obtain⟨k,l,rfl,ad,hk,hl,c,d,F,s⟩:=hrel;have L:=s.size;by_cases S:k<n
  .have H:=P k S;rw[<-s.cell (p:=⟨b,k,none⟩) O]at H;have t:ls.drop k=ls.getD k []::ls.drop (k+1):=by
    rw[List.drop_eq_getElem_cons oo,Qg,Qc oo];rfl
   have W:ls.getD k []∈ls:=by
    rw[Qg,Qc oo];exact List.getElem_mem _
   have R:=Z _ W;rw[t]at c d;generalize ls.getD k []=h at H R c d t;have T:(k:Int)<(n:Int):=oo
   replace u:=Qh u;replace i:=Qh i;have Q:=Ib h;go_wp2_with fail;refine mo (PV ⟨h.toArray⟩ wr (by show h.length<=_;omega)) λC A=>?_;have J:=F.keep A;have K:w.heap.size<=C.heap.size:=by have:=A.size;omega
   have z:=s.trans (A.mono L);show _
   change (λ_ _=>_) _ _;generalize a:aU (⟨h.toArray⟩:ByteArray).data.toList=f;have a:=a;rw[a]at Q;by_cases q:f.2=false
   .have r:=vJ (l:=h) (ls.drop (k+1)) (by rw[a];exact q);rw[r]at c d;go_wp2_with fail;refine(sf w.heap.size w.heap.size l C J K).mono ?_;rintro e x ⟨rfl,m,g⟩;go_wp2;go_ret2;refine⟨?_,z.trans g⟩;have y:I.1=l:=by rw[c];simp
    have o:((I.2+1:Nat):Int)=(k:Int):=by rw[d];simp
    rw[y,o];rfl
   .have q:f.2=true:=by simpa using q
    have ab:(⟨f.1.toArray⟩:ByteArray).size=f.1.length:=rfl;go_wp2_with fail;refine(wI w.heap.size w.heap.size l _ C J ?Y K).mono ?_;case Y=>rw[ab];omega
    rintro e x ⟨rfl,m,g⟩;have m:=m;have X:w.heap.size<=x.heap.size:=by have:=g.size;omega
    by_cases E:f.1.length<48
    .have r:=ul (l:=h) (ls.drop (k+1)) (by rw[a];exact q) (by rw[a];exact E);rw[r,a]at c d;have M:(f.1.length:Int)<48:=oo
     go_wp2_with fail;refine(sf w.heap.size w.heap.size _ x m X).mono ?_;rintro e w3 ⟨rfl,ag,N⟩;go_wp2;go_ret2;refine⟨?_,(z.trans g).trans N⟩;have o:((I.2+1:Nat):Int)=(k:Int)+1:=by rw[d];simp
     rw[c,o];rfl
    .have r:=vK (l:=h) (ls.drop (k+1)) (by rw[a];exact q) (by rw[a];exact E);rw[r,a]at c d;have M:(48:Int)<=(f.1.length:Int):=oo
     go_wp2;go_roundw
     case rel=>
      refine⟨k+1,l++f.1,gn,oo,oo,by rw[Qa];omega,?_,?_,m,z.trans g⟩
      .rw[c,Qk]
      .rw[d];omega
     case measure=>simp[Jc];omega
  .have B:k=n:=oo
   have t:ls.drop k=[]:=Qi oo;rw[t]at c d;have T:(n:Int)<=(k:Int):=oo
   replace u:=Qh u;replace i:=Qh i;replace B:=Qh B;go_wp2_with fail;refine(sf w.heap.size w.heap.size l wr F L).mono ?_;rintro e x ⟨rfl,m,g⟩;go_wp2;go_ret2;refine⟨?_,s.trans g⟩;have y:I.1=l:=by rw[c];simp[cF]
   have o:((I.2+1:Nat):Int)=(n:Int):=by rw[d,B.out];simp[cF]
   rw[y,o];rfl
def Ts(l:List (List UInt8)):Array Value:=(l.map λx=>QE ⟨x.toArray⟩).toArray
theorem Zk(l:List (List UInt8))(j:Nat)(h:j<l.length):(Ts l)[j]? =some (QE ⟨(l.getD j []).toArray⟩):=by
 simp[Ts,Qc h]
def rdV(x:List UInt8×Nat×Bool):Value:=QH #[QE ⟨x.1.toArray⟩,QF QN (x.2.1:Int),QI x.2.2]
theorem SA:∀r:List (List UInt8),(cF r).2<=r.length
 | []=>Nat.le_refl _
 |l::r=>by
  by_cases a:(aU l).2=false
  .rw[vJ r a];simp
  .have a:(aU l).2=true:=by simpa using a
   by_cases h2:(aU l).1.length<48
   .rw[ul r a h2];simp
   .rw[vK r a h2];have:=SA r;simp only[Qd];omega
theorem Xy{ls:List (List UInt8)}{b:Qu}:∀l∈ls,l.length<=(aE ls++b).length:=by
 induction ls with
 |nil=>intro l h;cases h
 |cons x r a=>
  intro l h;simp only[List.mem_cons]at h;simp only[aE,Qa,Qd]at a|-;rcases h with rfl|h
  .omega
  .have:=a l h;omega
theorem Mt(s:Qb)(ls:List (List UInt8))(b:Qu)(m:Int)(w:QV)(S:s.data.toList=aE ls++b)
  (h1:∀l∈ls,(10:UInt8)∉l) (h2:(10:UInt8)∉b) (bi:s.size<=100000-1) (hm:w.cell? ⟨1,0,none⟩=some (QF QN m)):
  Rw 34 #[QE s] w (rdV (eU ls b)):=by
 obtain⟨N,a3⟩:=Ab s ls b S h1 h2;have ba:ls.length<=s.size:=by
  rw[<-N];exact QR ⟨#[10]⟩ dd s.size s nR
 have az:∀l∈ls,l.length<=1000000:=by
  intro l f;have:=Xy (b:=b) l f;rw[<-S,kZ]at this;omega
 generalize C:eU ls b=R;go_enter Tryz.func34,Tryz.ntmps34;go_wp2_with fail;refine(Tryz.strings_Split s ⟨#[10]⟩ m w oo hm dd).mono ?_;rintro e o ⟨rfl,rfl⟩;rw[a3,N];have ag:(((ls++ [b]).map λl=>(⟨l.toArray⟩:ByteArray)).map QE).toArray=Ts (ls++ [b]):=by simp[Ts]
 rw[ag];have q:Blk (w.alloc (QU (Ts (ls++ [b])) 9)) w.heap.size (Ts (ls++ [b])) 9:=Q8 w _ _;generalize T:w.alloc (QU (Ts (ls++ [b])) 9)=o at q;have K:Jb w.heap.size w o:=by rw[<-T];exact bR.alloc nR _
 have Q:=q.lt;have ad:o.cell? ⟨w.heap.size,ls.length,none⟩=some (QE ⟨b.toArray⟩):=by
  rw[q.cell,Zk _ _ ss];simp
 have J:∀j,j<ls.length->o.cell? ⟨w.heap.size,j,none⟩=some (QE ⟨(ls.getD j []).toArray⟩):=by
  intro j G;rw[q.cell,Zk _ _ (by simp;omega)];simp[List.getElem?_append_left G]
 generalize u:ls.length=n at*;have a4:QN.wrap (n:Int)=(n:Int):=by rw[QO];omega
 have a2:∀c,(Instr.sliceAt 25 (QG (some ⟨w.heap.size,0,none⟩) (n+1) (n+1)) none (some (QF QN (n:Int))) none).run Qo c=.ok (QG (some ⟨w.heap.size,0,none⟩) n (n+1)) c:=by
  intro c;rw[run_sliceAt_slice (h:=Qt),run_slice_h (ht:=Qt) (h0:=oo) (h2:=oo)];have g:(QY (Qo.elem 25)).run Qo c=.ok 1 c:=QB c;rw[g];have B:(⟨w.heap.size,0,none⟩:Addr).add 0=⟨w.heap.size,0,none⟩:=by unfold Addr.add;split<;>simp_all
  simp[Q7,sliced,B]
 have an:∀c,(Instr.indexAt 25 (QG (some ⟨w.heap.size,0,none⟩) (n+1) (n+1)) (QF QN (n:Int))).run Qo c=.ok (QJ (some ⟨w.heap.size,n,none⟩)) c:=by
  intro c;have B:(⟨w.heap.size,0,none⟩:Addr).add n=⟨w.heap.size,n,none⟩:=by unfold Addr.add;split<;>simp_all
  have g:(QY (Qo.elem 25)).run Qo c=.ok 1 c:=QB c;rw[run_indexAt_slice (h:=Qt),if_pos ⟨oo,oo⟩];simp[Q7,g,B]
 go_wp2_with fail;go_quiet (fail)
 clear a2 an a4 ad;have ab:=q.drewN nq;have E:=below_drewN K nq;have A:∀j,j<n->(o.drewN nq).cell? ⟨w.heap.size,j,none⟩=some (QE ⟨(ls.getD j []).toArray⟩):=J
 have H:w.heap.size<(o.drewN nq).heap.size:=Q;clear q K J Q T;generalize o.drewN nq=W at ab E A H|-;replace u:=Qh u;replace C:=Qh C;by_cases h0:n=0
 .subst h0;have B:=Qe u.out;go_wp2;go_ret3
  refine⟨?_,E⟩;rw[<-C.out,B];rfl
 .obtain⟨d,r,rfl⟩:∃d r,ls=d::r:=by
   cases ls with
   |nil=>exact absurd u.out.symm h0
   |cons x y=>exact⟨x,y,rfl⟩
  have i:r.length+1=n:=u.out;have a6:W.cell? ⟨w.heap.size,0,none⟩=some (QE ⟨d.toArray⟩):=A 0 oo;have bd:(0:Int)<(n:Int):=oo
  have bh:((n:Int)==0)=false:=by simp;omega
  replace i:=Qh i;by_cases t:d=eG
  .have ah:(d== [45,45,45,45,45,66,69,71,73,78,32,77,73,83,83,73,86,69,45,45,45,45,45])=true:=by rw[t];rfl
   replace t:=Qh t;go_wp2_with fail;refine mo (Vv (d::r) w.heap.size n (n+1) W u.out.symm oo oo H az A) λZ L=>?_;have v:=E.trans (L.mono oo);have M:∀j,j<n->Z.cell? ⟨w.heap.size,j,none⟩=some (QE ⟨((d::r).getD j []).toArray⟩):=by
    intro j G;rw[L.cell (p:=⟨w.heap.size,j,none⟩) H];exact A j G
   have D:=SA r;have a:=C.out;simp only[eU,t.out,ne_eq,not_true_eq_false,if_false]at a;have O:(d::r).drop 1=r:=rfl;rw[O];generalize cF r=I at D a;obtain⟨X,k⟩:=I;simp only at D a;have P:((k+1:Nat):Int)=(k:Int)+1:=oo
   rw[P];replace D:=Qh D;clear P O;by_cases a8:k+1=n
   .have a1:r[k]? =none:=List.getElem?_eq_none (by have:=i.out;omega);rw[a1]at a;replace a:=Qh a;have ao:((k:Int)+1==(n:Int))=true:=by simp;omega
    go_wp2;go_ret3
    refine⟨?_,v⟩;rw[<-a.out];rfl
   .have ap:k<r.length:=by have:=i.out;have:=D.out;omega
    obtain⟨z,g⟩:∃z,r[k]? =some z:=⟨_,Qc ap⟩
    rw[g]at a;simp only at a;have ax:k+1<n:=by have:=i.out;omega
    have a7:Z.cell? ⟨w.heap.size,k+1,none⟩=some (QE ⟨z.toArray⟩):=by
     rw[M (k+1) ax];simp[g]
    clear M A;have ao:((k:Int)+1==(n:Int))=false:=by simp;omega
    have a9:(k:Int)+1<(n:Int):=oo
    replace g:=Qh g;by_cases f:z=ju
    .have ay:(z== [45,45,45,45,45,69,78,68,32,77,73,83,83,73,86,69,45,45,45,45,45])=true:=by rw[f];rfl
     rw[if_neg (by simpa using f)]at a;replace f:=Qh f;by_cases bb:k+2<n
     .rw[if_pos (.inl (by have:=i.out;omega))]at a;replace a:=Qh a;have a0:(k:Int)+1+1<(n:Int):=oo
      go_wp2;go_ret3
      refine⟨?_,v⟩;rw[<-a.out];show _=QT (QH #[QE ⟨#[]⟩,QF QN ((k+2:Nat):Int),QI false])
      rw[show ((k+2:Nat):Int)=(k:Int)+1+1 by omega];rfl
     .have a0:(n:Int)<=(k:Int)+1+1:=oo
      by_cases F:b=[]
      .rw[if_neg (by rintro(h|h);have:=i.out;omega;exact h F)]at a;replace a:=Qh a;subst F;go_wp2;go_ret3
       refine⟨?_,v⟩;rw[<-a.out];rfl
      .rw[if_pos (.inr F)]at a;replace a:=Qh a;have a5:b.isEmpty=false:=by cases b;exact absurd rfl F;rfl
       go_wp2;go_ret3
       refine⟨?_,v⟩;rw[<-a.out];show _=QT (QH #[QE ⟨#[]⟩,QF QN ((k+2:Nat):Int),QI false])
       rw[show ((k+2:Nat):Int)=(k:Int)+1+1 by omega];rfl
    .have ay:(z== [45,45,45,45,45,69,78,68,32,77,73,83,83,73,86,69,45,45,45,45,45])=false:=by
      rw[beq_eq_false_iff_ne];exact f
     rw[if_pos (by simpa using f)]at a;clear f;replace a:=Qh a;go_wp2;go_ret3
     refine⟨?_,v⟩;rw[<-a.out];rfl
  .have ah:(d== [45,45,45,45,45,66,69,71,73,78,32,77,73,83,83,73,86,69,45,45,45,45,45])=false:=by
    rw[beq_eq_false_iff_ne];exact t
   go_wp2;go_ret3
   refine⟨?_,E⟩;have e1:eU (d::r) b=([],0,false):=by simp[eU,t]
   rw[<-C.out,e1];rfl
def ik(s:ByteArray):ByteArray×Int:=if s.size<=12000 then(⟨(oF s.data.toList).toArray⟩,0)else (⟨#[]⟩,1)
def jL(s:ByteArray)(x:List UInt8×Nat×Bool):ByteArray×Int×Int:=
 if s.size<=20000 then(if x.2.2=true then(if x.1.length<=12000 then(⟨x.1.toArray⟩,0,0)else (⟨#[]⟩,0,1))else (⟨#[]⟩,(x.2.1:Int),8))else (⟨#[]⟩,0,1)
theorem Ig:∀r:List (List UInt8),(cF r).1.length<=64*r.length
 | []=>by simp[cF]
 |l::r=>by
  have b:=Ib l;by_cases a:(aU l).2=false
  .rw[vJ r a];simp
  .have a:(aU l).2=true:=by simpa using a
   by_cases h2:(aU l).1.length<48
   .rw[ul r a h2];simp only[Qd];omega
   .rw[vK r a h2];have:=Ig r;simp only[Qd,Qa];omega
theorem Xn(ls:List (List UInt8))(b:Qu):(eU ls b).1.length<=64*ls.length:=by
 unfold eU;split
 .simp
 .rename_i l r
  split
  .simp
  .have:=Ig r;generalize cF r=I at this;obtain⟨x,n⟩:=I;simp only at this|-;split
   .simp
   .split
    .simp
    .split
     .simp
     .simp only[Qd];omega
theorem LJ(s:Qb)(w:QV)(i:s.size<=140737488351232):
  Rw 18 #[QE s] w (QH #[QE (ik s).1,QF QN (ik s).2]):=by
 have d:Jb w.heap.size w (w.alloc (QU (Ss [s]) 9)):=bR.alloc nR _;have c:Hid (QW Qo 27 #[QF QN 12000,QG (some ⟨w.heap.size,0,none⟩) 1 1] (w.alloc (QU (Ss [s]) 9)) λe w'=>e=QT (QI (dH 12000 [s]))/\w'=w.alloc (QU (Ss [s]) 9)):=
  lV w.heap.size 1 12000 [s] 9 _ oo rfl oo (Q8 w _ _) (by intro j g;match j,g with|0,_=>show s.size<=_;omega)
 by_cases h:s.size<=12000
 .have a:ik s=(⟨(oF s.data.toList).toArray⟩,0):=by unfold ik;rw[if_pos h]
  have b:dH 12000 [s]=false:=by rw[qo];simp;omega
  rw[b]at c;rw[a];clear a b;go_enter QD,QC;go_wp2_with fail;refine c.out.mono ?_;rintro e w' ⟨rfl,rfl⟩;go_wp2_with fail;refine mo (KF s _ oo) λk f=>?_;go_wp2;go_ret2;exact⟨rfl,d.trans (f.mono d.size)⟩
 .have a:ik s=(⟨#[]⟩,1):=by unfold ik;rw[if_neg h]
  have b:dH 12000 [s]=true:=by rw[qo];simp;omega
  rw[b]at c;rw[a];clear a b;go_enter QD,QC;go_wp2_with fail;refine c.out.mono ?_;rintro e w' ⟨rfl,rfl⟩;go_wp2;go_ret2;exact⟨rfl,d⟩
theorem vT{m:Int}{w w':QV}(a:w.cell? ⟨1,0,none⟩=some (QF QN m))(h:Jb w.heap.size w w'):w'.cell? ⟨1,0,none⟩=some (QF QN m):=by
 rw[h.cell (p:=⟨1,0,none⟩) ?_]
 .exact a
 .show 1<w.heap.size
  by_cases b:1<w.heap.size
  .exact b
  .have c:w.heap[1]? =none:=Array.getElem?_eq_none oo;simp[World.cell?,c]at a
theorem Yu(s:Qb)(ls:List (List UInt8))(b:Qu)(m:Int)(w:QV)(u:s.data.toList=aE ls++b)
  (t:∀l∈ls,(10:UInt8)∉l) (h2:(10:UInt8)∉b) (G:s.size<=140737488351232) (y:w.cell? ⟨1,0,none⟩=some (QF QN m)):
  Rw 19 #[QE s] w (QH #[QE (jL s (eU ls b)).1,QF QN (jL s (eU ls b)).2.1,QF QN (jL s (eU ls b)).2.2]):=by
 have c:Jb w.heap.size w (w.alloc (QU (Ss [s]) 9)):=bR.alloc nR _;have d:Hid (QW Qo 27 #[QF QN 20000,QG (some ⟨w.heap.size,0,none⟩) 1 1] (w.alloc (QU (Ss [s]) 9)) λe w'=>e=QT (QI (dH 20000 [s]))/\w'=w.alloc (QU (Ss [s]) 9)):=
  lV w.heap.size 1 20000 [s] 9 _ oo rfl oo (Q8 w _ _) (by intro j q;match j,q with|0,_=>show s.size<=_;omega)
 by_cases h:s.size<=20000
 .have k:dH 20000 [s]=false:=by rw[qo];simp;omega
  rw[k]at d;have z:=vT y c;have r:=
   Qh (Mt s ls b m _ u t h2 oo z)
  have v:(eU ls b).1.length<=64*s.size:=by
   have E:=Xn ls b;have F:ls.length<=s.size:=by
    obtain⟨C,_⟩:=Ab s ls b u t h2;rw[<-C];exact QR ⟨#[10]⟩ dd s.size s nR
   omega
  have i:jL s (eU ls b)=(if(eU ls b).2.2=true then(if(eU ls b).1.length<=12000 then(⟨(eU ls b).1.toArray⟩,0,0)else (⟨#[]⟩,0,1))else (⟨#[]⟩,((eU ls b).2.1:Int),8)):=by unfold jL;rw[if_pos h]
  rw[i];generalize eU ls b=R at r v;obtain⟨x,n,D⟩:=R;simp only at v;clear i k z y u t h2;have B:(⟨x.toArray⟩:ByteArray).size=x.length:=rfl;cases D with
  |false=>
   simp only[Bool.false_eq_true,if_false];go_enter Qy,Qx;go_wp2_with fail;refine d.out.mono ?_;rintro e w' ⟨rfl,rfl⟩;go_wp2_with fail;refine r.out.mono ?_;rintro e a ⟨rfl,p⟩;unfold rdV;go_wp2;go_ret3
   exact⟨rfl,c.trans (p.mono c.size)⟩
  |true=>
   by_cases A:x.length<=12000
   .simp only[A,if_true];go_enter Qy,Qx;go_wp2_with fail;refine d.out.mono ?_;rintro e w' ⟨rfl,rfl⟩;go_wp2_with fail;refine r.out.mono ?_;rintro e a ⟨rfl,p⟩;have g:=c.trans (p.mono c.size);have o:dH 12000 [⟨x.toArray⟩]=false:=by rw[qo,B];simp;omega
    have f:Hid (QW Qo 27 #[QF QN 12000,QG (some ⟨a.heap.size,0,none⟩) 1 1] (a.alloc (QU (Ss [⟨x.toArray⟩]) 9)) λe w'=>e=QT (QI (dH 12000 [⟨x.toArray⟩]))/\w'=a.alloc (QU (Ss [⟨x.toArray⟩]) 9)):=
     lV a.heap.size 1 12000 [⟨x.toArray⟩] 9 _ oo rfl oo (Q8 a _ _) (by intro j q;match j,q with|0,_=>show x.length<=_;omega)
    rw[o]at f;clear o;unfold rdV;go_wp2_with fail;refine f.out.mono ?_;rintro e w' ⟨rfl,rfl⟩;go_wp2;go_ret3
    exact⟨rfl,g.alloc g.size _⟩
   .simp only[A,if_true,if_false];go_enter Qy,Qx;go_wp2_with fail;refine d.out.mono ?_;rintro e w' ⟨rfl,rfl⟩;go_wp2_with fail;refine r.out.mono ?_;rintro e a ⟨rfl,p⟩;have g:=c.trans (p.mono c.size);have o:dH 12000 [⟨x.toArray⟩]=true:=by rw[qo,B];simp;omega
    have f:Hid (QW Qo 27 #[QF QN 12000,QG (some ⟨a.heap.size,0,none⟩) 1 1] (a.alloc (QU (Ss [⟨x.toArray⟩]) 9)) λe w'=>e=QT (QI (dH 12000 [⟨x.toArray⟩]))/\w'=a.alloc (QU (Ss [⟨x.toArray⟩]) 9)):=
     lV a.heap.size 1 12000 [⟨x.toArray⟩] 9 _ oo rfl oo (Q8 a _ _) (by intro j q;match j,q with|0,_=>show x.length<=_;omega)
    rw[o]at f;clear o;unfold rdV;go_wp2_with fail;refine f.out.mono ?_;rintro e w' ⟨rfl,rfl⟩;go_wp2;go_ret3
    exact⟨rfl,g.alloc g.size _⟩
 .have i:jL s (eU ls b)=(⟨#[]⟩,0,1):=by unfold jL;rw[if_neg h]
  have k:dH 20000 [s]=true:=by rw[qo];simp;omega
  rw[k]at d;rw[i];clear i k;go_enter Qy,Qx;go_wp2_with fail;refine d.out.mono ?_;rintro e w' ⟨rfl,rfl⟩;go_wp2;go_ret3
  exact⟨rfl,c⟩
end Go.Proofs.YtclpbaokadfhhaaGreatDoor
