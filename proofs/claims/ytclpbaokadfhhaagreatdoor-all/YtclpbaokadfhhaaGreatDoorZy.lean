import Derived.Test.YtclpbaokadfhhaaGreatDoorZx
set_option maxRecDepth 100000
set_option maxHeartbeats 2000000
open Go.Value renaming string->Qa,int->Qc,slice->Qd,tuple->Qe
open ByteArray renaming size_append->Qf,ext->Qg,data_extract->Qi
open Go.Proofs.Tryz renaming ntmps93->Qj,func93->Qk,ntmps92->Qm,func92->Qn,ntmps147->Qo,ntmps90->Qp,func147->Qq,func90->Qt
open Go.RowKit.Below renaming refl->Qx
open UInt8 renaming ofNat->Qy
namespace Go.Proofs.YtclpbaokadfhhaaGreatDoor
open Go.RowKit
theorem OwnB.frozen{w:World}{c g n cap:Nat}{l:Qu}(h:OwnB w c (Qd (some ⟨g,0,none⟩) n cap) l)(i:Nat)(q:i<l.length):w.frozen? ⟨g,i,none⟩=false:=by
 obtain⟨m,f,j,k,e,p,d,b,o,r,ht⟩:=h;injection e with a _ _
 injection a with a
 injection a with a _ _
 subst a;simp only[World.frozen?,d];rcases b with rfl|b
 .simp
 .simp;omega
theorem OwnB.set{w:World}{b g n cap:Nat}{l:Qu}(h:OwnB w b (Qd (some ⟨g,0,none⟩) n cap) l)(i:Nat)(_:i<l.length)(x:UInt8):
  OwnB (w.setCell ⟨g,i,none⟩ (Qc .u8 (x.toNat:Int))) b (Qd (some ⟨g,0,none⟩) n cap) (l.set i x)/\b<=g:=by
 obtain⟨r,q,d,c,p,e,f,m,k,o,ht⟩:=h;injection p with a h2 j
 injection a with a
 injection a with a _ _
 subst a h2 j;refine⟨?_,e⟩;rw[setCell_eq_setRow w g i d _ c _ f];refine⟨g,cap,_,c,ss,e,setRow_heap w g d _ _ c f,by simpa using m,by simp[k],by simpa using o,?_⟩;rw[List.length_set,Array.toList_setIfInBounds,List.take_set,ht];simp[Bs,List.map_set]
theorem yz(s:Qb)(c:Int)(C:UInt8)(m:c=(C.toNat:Int))(w:World)(t:s.size<=1000000):
  Rw 195 #[Qa s,Qc .u8 c] w (Qa ⟨(jA s.data.toList C s.size).toArray⟩):=by
 obtain⟨l,y,n,a,f⟩:=bytesOf s w.heap.size w nR;have h:s.data.toList.length=s.size:=ss
 subst m;generalize s.data.toList=L at a h|-;go_enter Tryz.func195,Tryz.ntmps195;go_wp2;clear n;go_loopw [6] (λi wr=> ∃k:Nat,k<=s.size/\i=Qc .i64 k/\OwnB wr w.heap.size (Qd (some ⟨w.heap.size,0,none⟩) s.size l) (jA L C k)/\Below w.heap.size w wr) (λi _=>s.size-(intOf i).toNat)
 case atStart=>exact⟨0,oo,rfl,a,f⟩
 case round=>
  clear a f;obtain⟨k,q,rfl,a,e⟩:=hrel;by_cases r:k<s.size
  .have d:k<(jA L C k).length:=by rw[oh];omega
   have g:=a.cell k d;rw[Dl _ _ _ oo]at g;have p:=a.frozen k d;have b:=a.set k d (L.getD k 0^^^C);rw[Bv _ _ _ oo]at b;generalize L.getD k 0=x at g b;rw[<-za]at b;have j:=Qh b;clear b;have v:(k:Int)<s.size:=oo
   go_wp2;go_roundw
   case rel=>exact⟨k+1,oo,gn,j.out.1,e.setCell nR _⟩
   case measure=>simp[intOf];omega
  .have o:k=s.size:=oo
   subst o;have u:=OwnB.string a (by rw[oh,h]);go_wp2;go_ret;exact⟨rfl,e⟩
theorem xp(k:Qb)(c:UInt8)(_:k.size<=128):il k c=⟨(jA (k.data.toList++aq (128-k.size)) c 128).toArray⟩:=by
 have:k.data.toList.length=k.size:=ss
 unfold il so;rw[this]
def mW(k:ByteArray)(j:Nat):ByteArray:=⟨(k.data.toList++aq j).toArray⟩
theorem yA(k:Qb)(j:Nat):(mW k j).size=k.size+j:=by
 show(k.data.toList++aq j).toArray.size=_
 simp[fD]
theorem Id(k:Qb)(j:Nat):mW k j++⟨#[0]⟩=mW k (j+1):=by
 unfold mW;have:=ByteArray.mk_append_mk (k.data.toList++aq j) [0];rw[show (#[0]:Array UInt8)=[0].toArray from rfl,this];congr 2
 rw[xh j 1];simp[aq]
def Bf:Value->Nat| Qa s=>s.size|_=>0
theorem GS(a data:Qb)(w:World)(T:a.size<=900000)(S:data.size<=900000):
  Rw 147 #[Qa a,Qa data] w (Qa (iW ai a data)):=by
 have d:=Dn ai a;have c:Hid (iW ai a data=Cw ai (n7 ai a) data):=rfl;generalize iW ai a data=R at c|-;by_cases G:128<a.size
 .have o:n7 ai a=fQ ai a:=by unfold n7;rw[if_pos G]
  rw[o]at d c;clear o;have J:(128:Int)<a.size:=oo
  go_enter Qq,Qo;go_wp2_with fail;refine mo (kE a _ oo) λW q=>?_;generalize fQ ai a=b at d c|-;have x:Hid (b=mW b 0):=by show _=_;unfold mW;simp[aq]
  go_wp2_with fail;go_loop [0] (λv=> ∃j:Nat,j<=128-b.size/\v=Qa (mW b j)) (λv=>128-Bf v)
  case atStart=>exact⟨0,oo,congrArg Qa x.out⟩
  case round=>
   obtain⟨j,K,rfl⟩:=hrel;have t:=yA b j;by_cases L:j<128-b.size
   .have F:(mW b j).size<128:=oo
    have s:=Id b j;have M:=yA b (j+1);have l:=Qh s;clear s t;generalize mW b j=kk at F l;go_wp2;go_round
    case rel=>exact⟨j+1,oo,congrArg Qa l.out⟩
    case measure=>simp only[Bf,Qf];show 128-(kk.size+1)<128-kk.size;omega
   .have E:j=128-b.size:=oo
    have e:(mW b j).size=128:=oo
    have g:=xp b 92 d;have f:=xp b 54 d;have r:(mW b j).data.toList=b.data.toList++aq (128-b.size):=by rw[E];unfold mW;simp
    rw[<-r]at g f;have n:=Qh g;have m:=Qh f;clear g f r t;generalize mW b j=kk at e n m|-;unfold Cw at c;have y:=lj b 54 d;have z:=lj b 92 d;have p:=fR ai (il b 54++data);go_wp2_with fail;refine mo (yz kk _ 54 rfl _ oo) λN A=>?_;rw[e,<-show il b 54=_ from m.out];generalize il b 54=u at y p c|-;go_wp2_with fail;refine mo (kE _ _ (by rw[Qf];omega)) λO B=>?_;generalize fQ ai (u++data)=I at p c|-;go_wp2_with fail;refine mo (yz kk _ 92 rfl _ oo) λP C=>?_;rw[e,<-show il b 92=_ from n.out];generalize il b 92=H at z c|-;go_wp2_with fail;refine mo (kE _ _ (by rw[Qf];omega)) λQ D=>?_;have h:=q.trans (A.mono q.size);have i:=h.trans (B.mono h.size);have k:=i.trans (C.mono i.size);go_wp2;go_ret;exact⟨by rw[show R=_ from c.out];rfl,k.trans (D.mono k.size)⟩
 .have o:n7 ai a=a:=by unfold n7;rw[if_neg G]
  rw[o]at d c;clear o;have J:¬(128:Int)<a.size:=oo
  have q:=Qx w.heap.size w;go_enter Qq,Qo;have x:Hid (a=mW a 0):=by show _=_;unfold mW;simp[aq]
  go_wp2_with fail;go_loop [0] (λv=> ∃j:Nat,j<=128-a.size/\v=Qa (mW a j)) (λv=>128-Bf v)
  case atStart=>exact⟨0,oo,congrArg Qa x.out⟩
  case round=>
   obtain⟨j,K,rfl⟩:=hrel;have t:=yA a j;by_cases L:j<128-a.size
   .have F:(mW a j).size<128:=oo
    have s:=Id a j;have M:=yA a (j+1);have l:=Qh s;clear s t;generalize mW a j=kk at F l;go_wp2;go_round
    case rel=>exact⟨j+1,oo,congrArg Qa l.out⟩
    case measure=>simp only[Bf,Qf];show 128-(kk.size+1)<128-kk.size;omega
   .have E:j=128-a.size:=oo
    have e:(mW a j).size=128:=oo
    have g:=xp a 92 d;have f:=xp a 54 d;have r:(mW a j).data.toList=a.data.toList++aq (128-a.size):=by rw[E];unfold mW;simp
    rw[<-r]at g f;have n:=Qh g;have m:=Qh f;clear g f r t;generalize mW a j=kk at e n m|-;unfold Cw at c;have y:=lj a 54 d;have z:=lj a 92 d;have p:=fR ai (il a 54++data);go_wp2_with fail;refine mo (yz kk _ 54 rfl _ oo) λN A=>?_;rw[e,<-show il a 54=_ from m.out];generalize il a 54=u at y p c|-;go_wp2_with fail;refine mo (kE _ _ (by rw[Qf];omega)) λO B=>?_;generalize fQ ai (u++data)=I at p c|-;go_wp2_with fail;refine mo (yz kk _ 92 rfl _ oo) λP C=>?_;rw[e,<-show il a 92=_ from n.out];generalize il a 92=H at z c|-;go_wp2_with fail;refine mo (kE _ _ (by rw[Qf];omega)) λQ D=>?_;have h:=q.trans (A.mono q.size);have i:=h.trans (B.mono h.size);have k:=i.trans (C.mono i.size);go_wp2;go_ret;exact⟨by rw[show R=_ from c.out];rfl,k.trans (D.mono k.size)⟩
theorem Rr(s:Qb)(w:World)(c:s.size<=9223372036854775807):
  Rw 90 #[Qa s] w (Qe #[Qa (fp ai s).1,Qc .i64 (fp ai s).2]):=by
 by_cases h:s.size<=10000
 .have a:fp ai s=(fQ ai s,0):=by unfold fp;rw[if_pos h]
  rw[a];clear a;go_enter Qt,Qp;go_wp2_with fail;refine mo (kE s _ oo) λd b=>?_;go_wp2;go_ret2;exact⟨rfl,b⟩
 .have a:fp ai s=(⟨#[]⟩,1):=by unfold fp;rw[if_neg h]
  rw[a];clear a;go_enter Qt,Qp;go_wp2;go_ret2;exact⟨rfl,Qx _ _⟩
theorem Yw(k s:Qb)(w:World)(f:k.size<=9223372036854775807)(g:s.size<=9223372036854775807):
  Rw 92 #[Qa k,Qa s] w (Qe #[Qa (iz ai k s).1,Qc .i64 (iz ai k s).2]):=by
 by_cases b:k.size<=10000
 .have c:decide ((10000:Int)<(k.size:Int))=false:=by simp;omega
  by_cases h2:s.size<=10000
  .have d:decide ((10000:Int)<(s.size:Int))=false:=by simp;omega
   have a:iz ai k s=(iW ai k s,0):=by unfold iz;rw[if_pos ⟨b,h2⟩]
   rw[a];clear a;go_enter Qn,Qm;go_wp2_with fail;refine mo (GS k s _ oo oo) λi e=>?_;go_wp2;go_ret2;exact⟨rfl,e⟩
  .have d:decide ((10000:Int)<(s.size:Int))=true:=by simp;omega
   have a:iz ai k s=(⟨#[]⟩,1):=by unfold iz;rw[if_neg (λh=>h2 h.2)]
   rw[a];clear a;go_enter Qn,Qm;go_wp2;go_ret2;exact⟨rfl,Qx _ _⟩
 .have c:decide ((10000:Int)<(k.size:Int))=true:=by simp;omega
  have a:iz ai k s=(⟨#[]⟩,1):=by unfold iz;rw[if_neg (λh=>b h.1)]
  rw[a];clear a;go_enter Qn,Qm;go_wp2;go_ret2;exact⟨rfl,Qx _ _⟩
theorem Zu(K:Nat->BitVec 64)(b p:Qb)(n i:Nat)(a:i<=16)(c:n<=64*i):(⟨(fP K b p i).toArray⟩:ByteArray).extract 0 n=⟨((fP K b p 16).take n).toArray⟩:=by
 have h:=Ek K b p n i a c;unfold na at h;rw[show n-64*i=0 by omega]at h;rw[<-h];apply Qg
 simp[Qi,aq]
theorem tR(d c a:Qb)(n:Nat)(w:World)(I:d.size<=100000)(h2:c.size<=100000)(J:a.size<=100000)(N:n<=1000):
  Rw 148 #[Qa d,Qa c,Qa a,Qc .i64 n] w (Qa (l8 ai d c a n)):=by
 have j:Hid (l8 ai d c a n=⟨((fP ai (iW ai c d) a 16).take n).toArray⟩):=rfl;generalize l8 ai d c a n=R at j|-;go_enter Tryz.func148,Tryz.ntmps148;go_wp2_with fail;refine mo (GS _ _ _ oo oo) λP C=>?_;have B:=rC ai c d;generalize iW ai c d=b at B j|-;go_wp2_with fail;go_loopw [10,11,12] (λo t q wr=> ∃i:Nat,i<=16/\o=Qa ⟨(fP ai b a i).toArray⟩/\t=Qa (dW ai b a i)/\q=Qc .i64 ((i:Int)+1)/\Below w.heap.size w wr) (λo _ _ _=>1024-Bf o)
 case atStart=>exact⟨0,oo,rfl,rfl,rfl,C⟩
 case round=>
  obtain⟨i,E,rfl,rfl,rfl,k⟩:=hrel;have l:=oH ai b a i;by_cases M:64*i<n
  .have L:i<16:=oo
   have G:64*(i:Int)<n:=oo
   have F:=Bt ai b a i;have p:=Sx i oo;have x:=gc (cap:=1) (Blk.new wr (Bs [Qy (i+1)]) 5) 1 rfl;rw[<-p]at x;clear p;have f:Hid (dW ai b a (i+1)=iW ai b (dW ai b a i++a++⟨[Qy (i+1)].toArray⟩)):=rfl;have v:([Qy (i+1)].toArray).size<=1:=ss
   generalize [Qy (i+1)].toArray=z at x f v;have K:(⟨z⟩:ByteArray).size<=1:=v;have A:(dW ai b a i++a).size<=100064:=by rw[Qf];omega
   have r:=Ag ai b a i;have h:Hid (fP ai b a (i+1)=fP ai b a i++(dW ai b a (i+1)).data.toList):=rfl;generalize s:dW ai b a (i+1)=g at r h f;have y:=Qh s;clear s;generalize dW ai b a i=H at F A f|-;generalize fP ai b a i=e at l h|-;have Q:IntKind.u8.wrap ((i:Int)+1)=(i:Int)+1:=by rw[IntKind.wrap_u8'];omega
   go_wp2_with fail;refine mo (GS _ _ _ oo (by rw[Qf];omega)) λS D=>?_;rw[<-show g=_ from f.out];go_wp2;go_roundw
   case rel=>
    refine⟨i+1,oo,?_,by rw[show dW ai b a (i+1)=g from y.out],gn,?_⟩
    .rw[show fP ai b a (i+1)=_ from h.out];exact congrArg Qa (ByteArray.mk_append_mk e g.data.toList)
    .have u:=k.alloc k.size (.cells #[Qc .u8 ((i:Int)+1)] 5);exact u.trans (D.mono u.size)
   case measure=>
    simp only[Bf,Qf];show 1024-(e.toArray.size+g.size)<1024-e.toArray.size
    simp[l,r];omega
  .have m:=Qh (Zu ai b a n i E oo);generalize fP ai b a i=e at l m|-;have O:n<=e.length:=oo
   have G:¬64*(i:Int)<n:=oo
   go_wp2;go_ret;exact⟨by rw[show R=_ from j.out,<-show _=_ from m.out];rfl,k⟩
theorem vi(K:Nat->BitVec 64)(a b c:Qb)(n:Int)(h:¬(a.size<=10000/\b.size<=10000/\c.size<=10000/\0<=n/\n<=1000)):dZ K a b c n=(⟨#[]⟩,1):=by
 unfold dZ;rw[if_neg h]
theorem PO(K:Nat->BitVec 64)(a b c:Qb)(n:Int)(h:a.size<=10000/\b.size<=10000/\c.size<=10000/\0<=n/\n<=1000):dZ K a b c n=(l8 K a b c n.toNat,0):=by
 unfold dZ;rw[if_pos h]
theorem Rs(a b c:Qb)(n:Int)(w:World)(p:a.size<=9223372036854775807)(h2:b.size<=9223372036854775807)(q:c.size<=9223372036854775807):
  Rw 93 #[Qa a,Qa b,Qa c,Qc .i64 n] w (Qe #[Qa (dZ ai a b c n).1,Qc .i64 (dZ ai a b c n).2]):=by
 by_cases r:10000<a.size
 .have g:decide ((10000:Int)<(a.size:Int))=true:=by simp;omega
  have d:=vi ai a b c n (λh=>oo);rw[d];clear d;go_enter Qk,Qj;go_wp2;go_ret2;exact⟨rfl,Qx _ _⟩
 have g:decide ((10000:Int)<(a.size:Int))=false:=by simp;omega
 by_cases s:10000<b.size
 .have i:decide ((10000:Int)<(b.size:Int))=true:=by simp;omega
  have d:=vi ai a b c n (λh=>oo);rw[d];clear d;go_enter Qk,Qj;go_wp2;go_ret2;exact⟨rfl,Qx _ _⟩
 have i:decide ((10000:Int)<(b.size:Int))=false:=by simp;omega
 by_cases t:10000<c.size
 .have j:decide ((10000:Int)<(c.size:Int))=true:=by simp;omega
  have d:=vi ai a b c n (λh=>oo);rw[d];clear d;go_enter Qk,Qj;go_wp2;go_ret2;exact⟨rfl,Qx _ _⟩
 have j:decide ((10000:Int)<(c.size:Int))=false:=by simp;omega
 by_cases e:n<0
 .have k:decide (n<0)=true:=by simpa using e
  have d:=vi ai a b c n (λh=>oo);rw[d];clear d;go_enter Qk,Qj;go_wp2;go_ret2;exact⟨rfl,Qx _ _⟩
 have k:decide (n<0)=false:=by simpa using e
 by_cases f:1000<n
 .have l:decide (1000<n)=true:=by simpa using f
  have d:=vi ai a b c n (λh=>oo);rw[d];clear d;go_enter Qk,Qj;go_wp2;go_ret2;exact⟨rfl,Qx _ _⟩
 have l:decide (1000<n)=false:=by simpa using f
 have d:=PO ai a b c n oo;obtain⟨m,rfl⟩:=Int.eq_ofNat_of_zero_le (by omega:0<=n);rw[d,Int.toNat_natCast];clear d;go_enter Qk,Qj;go_wp2_with fail;refine mo (tR a b c m _ oo oo oo oo) λu o=>?_;go_wp2;go_ret2;exact⟨rfl,o⟩
end Go.Proofs.YtclpbaokadfhhaaGreatDoor
