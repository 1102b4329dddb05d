import Derived.Test.YtclpbaokadfhhaaGreatDoorZu
import Derived.Test.YtclpbaokadfhhaaGreatDoorYf
set_option maxRecDepth 100000
set_option maxHeartbeats 2000000
open BitVec renaming ofNat->Qa,toNat_ofNat->Qc
open Go.Proofs.YtclpbaokadfhhaaGreatDoor renaming Fd_Good->Qd,Rp_Is->Qe,Cv_Is->Qf,Rp_Pn->Qg,Cv_base_is->Qi,Rp_baseY_good->Qj
open List renaming take_of_length_le->Qk,length_replicate->Qm,length_append->Qn,length_take->Qo,length_set->Qp,drop_zero->Qq,getD->Qt
open Nat renaming mod_eq_of_lt->Qx,mod_lt->Qy,mul_mod->Qz,add_mod->QA
open Bool renaming eq_iff_iff->QB
open Go.Obj renaming cells->QC
open Go.Proofs.Tryz renaming ntmps101->QD,ntmps99->QE,func101->QF,func99->QG,prog->QH
open Go.Value renaming string->QI
namespace Go.Proofs.YtclpbaokadfhhaaGreatDoor
theorem yS{a:List Int}(b:Qd a):kI a=(cI (aB a)%2==1):=by
 have h:=nO b.1 b.bd2;have c:=iE a;unfold kI;rw[<-h];generalize bF a=l at c;match l,c with
 |x::m,_=>
  show((x.toNat:Int)%2==1)=(aR (x::m)%2==1)
  rw[aR,QB,beq_iff_eq,beq_iff_eq];omega
theorem xJ{a b:List Int}(c:Qd a)(d:Qd b):rW a b=true↔aB a=aB b:=by
 unfold rW;rw[decide_eq_true_iff];exact Ut c.1 c.bd2 d.1 d.bd2
theorem AR(l:Qu)(h:l.length=32):aR l=aR (l.take 31)+452312848583266388373324160190187140051835877600158453279131187530910662656*(l.getD 31 0).toNat:=by
 have e:l.drop 31=[l.getD 31 0]:=by
  rw[List.drop_eq_getElem_cons oo,List.drop_of_length_le oo];simp[Qt,h]
 have h2:=kN (l.take 31) (l.drop 31);rw[List.take_append_drop,e,Qo,h]at h2;rw[h2];simp[aR]
theorem TQ(l:Qu)(h:l.length=32):aR (l.take 31)<452312848583266388373324160190187140051835877600158453279131187530910662656:=by
 have:=pq (l.take 31);rw[Qo,h]at this;exact this
theorem Iy(l:Qu)(h:l.length=32)(x:UInt8):aR (l.set 31 x)=aR (l.take 31)+452312848583266388373324160190187140051835877600158453279131187530910662656*x.toNat:=by
 rw[AR _ (by rw[Qp,h]),List.take_set_of_le oo,Gw _ _ _ oo]
def enc(p:jc):Nat:=cI p.y+57896044618658097711785492504343953926634992332820282019728792003956564819968*(cI p.x%2)
theorem Sp(x:cC):cI x<57896044618658097711785492504343953926634992332820282019728792003956564819949:=EJ x
theorem abr(x b:UInt8)(c:x.toNat<128)(a:b.toNat<2):(x|||(b<<<7)).toNat=x.toNat+128*b.toNat:=by
 have d:∀(x:Fin 128) (b:Fin 2),(x.val.toUInt8|||(b.val.toUInt8<<<7)).toNat=x.val+128*b.val:=dk
 have:=d ⟨x.toNat,c⟩ ⟨b.toNat,a⟩;simpa using this
theorem Fg{a:Cv_Pn}{p:jc}(h:Qf a p):aR (bJ a)=enc p:=by
 obtain⟨f,g⟩:=h.xq;obtain⟨c,i⟩:=h.yq;have b:=tl a;have ht:((nQ a).getD 31 0).toNat<128:=by unfold nQ;exact ES c
 have e:(uv a).toNat=cI p.x%2:=by unfold uv;rw[ur f,g]
 have d:aR (nQ a)=cI p.y:=by unfold nQ;rw[EU c,i]
 rw[AR _ b]at d;unfold bJ enc;rw[Iy _ b,abr _ _ ht oo,e];omega
theorem WK(x:cC):∃l,aD l/\al l=x:=by
 have h:=Sp x;have a:bZ [Qa 64 (cI x),Qa 64 (cI x/18446744073709551616),Qa 64 (cI x/340282366920938463463374607431768211456),Qa 64 (cI x/6277101735386680763835789423207666416102355444464034512896)]=cI x:=by
  rw[uR,Qc,Qc,Qc,Qc];omega
 refine⟨ej (mm [Qa 64 (cI x),Qa 64 (cI x/18446744073709551616),Qa 64 (cI x/340282366920938463463374607431768211456),Qa 64 (cI x/6277101735386680763835789423207666416102355444464034512896)]),tg _,?_⟩;unfold al;rw[EN _ (pv _),vO _ rfl,a,Qx oo,tF]
theorem acj(p:jc):∃b,Qf b p:=by
 obtain⟨d,f,a⟩:=WK p.x;obtain⟨e,g,c⟩:=WK p.y;refine⟨⟨d,e,Ff_one5⟩,f,g,mR,?_⟩;rw[a,c,tI];exact Ed_Rep.of Gf_S p
theorem UK{s:Qu}(h:(ef (fM (ej s))).2=true):∃p,Qf (mK s) p:=by
 obtain⟨st,b⟩:=GJ (tg s);obtain⟨c,e⟩:=Uo st h;obtain⟨g,j⟩:=yt c;have a:∃x,aD (lH (ef (fM (ej s))).1 (s.getD 31 0>>>7))/\al (lH (ef (fM (ej s))).1 (s.getD 31 0>>>7))=x/\x*x=al (fM (ej s)):=by
  unfold lH;split
  .exact⟨_,c,rfl,e⟩
  .refine⟨_,g,rfl,?_⟩;rw[j,<-e];generalize al (ef (fM (ej s))).1=z;grind
 obtain⟨x,i,f,a⟩:=a;have on:jd Gf_S x (al (ej s)):=by
  unfold jd;rw[B6];rw[<-a]at b;generalize ak kV=d at b|-;generalize al (ej s)=y at b|-;clear a;grind
 refine⟨⟨x,al (ej s),on⟩,?_⟩;unfold Qf mK;dsimp only;refine⟨i,tg _,mR,?_⟩;rw[f,tI];exact Ed_Rep.of Gf_S ⟨x,al (ej s),on⟩
theorem Y5{s:Qu}(h:(jF s).2=true):∃p,Qf (jF s).1 p/\aR s=enc p:=by
 have a:(ef (fM (ej s))).2=true/\bJ (mK s)=s:=by
  unfold jF at h;split at h
  .split at h
   .rename_i c h2;exact⟨c,h2⟩
   .cases h
  .cases h
 obtain⟨p,b⟩:=UK a.1;refine⟨p,?_,?_⟩
 .unfold jF;rw[if_pos a.1,if_pos a.2];exact b
 .have:=Fg b;rw[a.2]at this;exact this
theorem R9{s:Qu}(f:s.length=32){p:jc}(h:aR s=enc p):(jF s).2=true/\Qf (jF s).1 p:=by
 obtain⟨b,a⟩:=acj p;have e:bJ b=s:=pu (by rw[ww,f]) (by rw[Fg a,h]);obtain⟨c,d,g⟩:=Sa a;rw[e]at d;rw[d];exact⟨rfl,g⟩
theorem Rp_Is.xq{a:Qg}{p:jc}(h:Qe a p):Qd (af a.x (fh a.z))/\aB (af a.x (fh a.z))=p.x:=by
 refine⟨aA _ _ h.1.1 (j8 _ h.1.2.2.1),?_⟩;have:=Ed_Rep.x Gf_S h.2.1;rw[C8]at this;rw[eO,uV,this]
theorem Rp_Is.yq{a:Qg}{p:jc}(h:Qe a p):Qd (af a.y (fh a.z))/\aB (af a.y (fh a.z))=p.y:=by
 refine⟨aA _ _ h.1.2.1 (j8 _ h.1.2.2.1),?_⟩;have:=Ed_Rep.y Gf_S h.2.1;rw[C8]at this;rw[eO,uV,this]
theorem Ri(l:Qu)(k:Nat)(h:k<l.length):l.set k (l.getD k 0)=l:=by
 apply List.ext_getElem?
 intro i;by_cases e:k=i
 .subst e;rw[List.getElem?_set_self h];simp[Qt,h]
 .rw[List.getElem?_set_ne e]
theorem Rp_Is.told{a:Qg}{b:Cv_Pn}{p:jc}(d:Qe a p)(f:Qf b p):oQ a=bJ b:=by
 obtain⟨m,j⟩:=d.xq;obtain⟨n,k⟩:=d.yq;obtain⟨q,s⟩:=f.xq;obtain⟨r,t⟩:=f.yq;have i:bF (af a.y (fh a.z))=nQ b:=by unfold nQ;exact Df n r (by rw[k,t])
 have c:(uv b).toNat=cI p.x%2:=by unfold uv;rw[ur q,s]
 have g:=yS m;rw[j]at g;unfold oQ bJ;rw[i,g];have o:=tl b;generalize nQ b=l at o;generalize uv b=x at c;by_cases h:cI p.x%2=1
 .have e:x=1:=UInt8.toNat.inj (by rw[c,h];rfl);rw[if_pos (by rw[h];rfl),e];rfl
 .have e:x=0:=UInt8.toNat.inj (by rw[c];show _=0;omega);rw[if_neg (by rw[beq_iff_eq];exact h),e,show ((0:UInt8)<<<7)=0 from rfl,UInt8.or_zero,Ri _ _ oo]
theorem Wc:yU (gr [0] 252) 252=7237005577332262213973186563042994240829374041602535252466099000494570602494:=dk
theorem Ys:yU (gr [0,1,1] 253) 253=14474011154664524427946373126085988481658748083205070504932198000989141204987:=dk
theorem T6:xF bW 256 2 28948022309329048855892746252171976963317496166410141009864396001978282409974=57896044618658097711785492504343953926634992332820282019728792003956564819948:=dk
theorem Wd(a:Nat)(h:xF bW 256 a 28948022309329048855892746252171976963317496166410141009864396001978282409974=57896044618658097711785492504343953926634992332820282019728792003956564819948):dD (ak a) 14474011154664524427946373126085988481658748083205070504932198000989141204987*dD (ak a) 14474011154664524427946373126085988481658748083205070504932198000989141204987= -1:=by
 have b:=mQ (ak a) 14474011154664524427946373126085988481658748083205070504932198000989141204987 14474011154664524427946373126085988481658748083205070504932198000989141204987;rw[show 14474011154664524427946373126085988481658748083205070504932198000989141204987+14474011154664524427946373126085988481658748083205070504932198000989141204987=28948022309329048855892746252171976963317496166410141009864396001978282409974 from rfl,<-tG]at b;have h2:=h.symm.trans (zz bW 256 a 28948022309329048855892746252171976963317496166410141009864396001978282409974 oo);have c:=rm (a^28948022309329048855892746252171976963317496166410141009864396001978282409974);rw[<-h2]at c;refine(b.symm.trans c.symm).trans ?_;clear b c h2 h;have e:ak (57896044618658097711785492504343953926634992332820282019728792003956564819948+1)=ak 0:=by rw[gQ];decide+kernel
 rw[jb,mw,kH]at e;generalize ak 57896044618658097711785492504343953926634992332820282019728792003956564819948=z at e|-;grind
theorem Yq:dD (ak 2) 14474011154664524427946373126085988481658748083205070504932198000989141204987*dD (ak 2) 14474011154664524427946373126085988481658748083205070504932198000989141204987= -1:=Wd 2 T6
theorem Wb(y:List Int):aB (jP y)=dD (aB (om y)) 7237005577332262213973186563042994240829374041602535252466099000494570602494:=by
 have a:(gr [0] 252).length=252:=by unfold gr;rw[Qn,Qm];rfl
 unfold jP oA;rw[a,ue,Wc]
theorem Yr:aB (oA (am 2) (gr [0,1,1] 253))=dD (ak 2) 14474011154664524427946373126085988481658748083205070504932198000989141204987:=by
 have a:(gr [0,1,1] 253).length=253:=by unfold gr;rw[Qn,Qm];rfl
 unfold oA;rw[a,ue,Ys,show aB (am 2)=ak 2 from oE 2]
theorem T8(y:List Int):aB (jI y)*aB (jI y)= -(aB (jP y)*aB (jP y)):=by
 unfold jI;rw[eO,Yr];have h:=Yq;generalize dD (ak 2) 14474011154664524427946373126085988481658748083205070504932198000989141204987=i at h|-;generalize aB (jP y)=r;grind
theorem LW{y:List Int}(b:Qd y):aB (om y)*(ak kV*(aB y*aB y)+1)=aB y*aB y-1:=by
 have c:=aA _ _ b b;have d:=aA _ _ fe c;unfold om;rw[eO,kJ _ _ c.1,eO,uV,mA _ _ d.1,eO,eO,Ev,Et,B6];have a:=tH _ (Az (aB y));generalize ak kV*(aB y*aB y)+1=n at a|-;generalize oT n=m at a|-;generalize aB y*aB y-1=t;grind
theorem xW(x:List Int):aB (au (am 0) x)= -aB x:=by
 rw[kJ _ _ f8.1,CE];generalize aB x=z;grind
theorem abZ(a b:cC):a*b=a*b*1:=gg
theorem aat(x y z:cC): -(x*y*z)= -x*y*z:=gg
theorem CM{x y:List Int}(d:Qd x)(f:Qd y){p:jc}(a:aB x=p.x)(b:aB y=p.y):Qe ⟨x,y,am 1,af x y⟩ p:=by
 have g:=aA x y d f;have e:aB (af x y)=p.x*p.y:=by rw[eO,a,b]
 generalize af x y=t at g e;have o:=Et;have c:=lm;generalize am 1=u at o c;unfold Qe;refine⟨Rp_Fine.of d f c g,?_⟩;dsimp only;rw[e,a,b,o];exact⟨Ed_Rep.of Gf_S p,abZ p.x p.y⟩
theorem Eu{x y:List Int}(c:Qd x)(i:Qd y){p:jc}{d:Bool}(b:d=(cI p.x%2==1))(h:aB x*aB x=p.x*p.x)(f:aB y=p.y):∃a,rH x y d=some a/\Qe a p:=by
 have l:=bl _ _ f8 c;have g:=yS c;have m:=yS l;rw[xW]at m;have n:=xW x;have q:(aB x-p.x)*(aB x+p.x)=0:=by
  generalize aB x=z at h;grind
 unfold rH re;rcases wt Gf_S q with e|e
 .have e:aB x=p.x:=by
   generalize aB x=z at e;grind
  rw[if_pos (by rw[g,b,e])];exact⟨_,rfl,CM c i e f⟩
 .have e:aB x= -p.x:=by
   generalize aB x=z at e;grind
  have k: -aB x=p.x:=by rw[e];grind
  by_cases h0:p.x=0
  .have j:aB x=p.x:=by rw[e,h0];grind
   rw[if_pos (by rw[g,b,j])];exact⟨_,rfl,CM c i j f⟩
  .have o:¬(kI x=d):=by
    have:=Kf p.x h0;rw[g,b,e,QB,beq_iff_eq,beq_iff_eq];omega
   rw[if_neg o,if_pos (by rw[m,b,k])];exact⟨_,rfl,CM l i (by rw[n,k]) f⟩
theorem LX{x y:List Int}{c:Bool}{a:Qg}(d:Qd x)(h:rH x y c=some a):∃b,Qd b/\aB b*aB b=aB x*aB x/\kI b=c/\a=⟨b,y,am 1,af b y⟩:=by
 unfold rH re at h;split at h
 .rename_i e;injection h with h;exact⟨x,d,rfl,e,h.symm⟩
 .split at h
  .rename_i e;injection h with h
   refine⟨_,bl _ _ f8 d,?_,e,h.symm⟩;rw[xW];generalize aB x=z;grind
  .cases h
theorem IG(s:Qb)(g:s.size=32):aR (tY s)=aR s.data.toList%57896044618658097711785492504343953926634992332820282019728792003956564819968/\aR s.data.toList/57896044618658097711785492504343953926634992332820282019728792003956564819968=(if qs s=true then 1 else 0):=by
 have a:s.data.toList.length=32:=by simpa using g
 have d:=AR _ a;have h2:=TQ _ a;have b:=Iy _ a (s.data.toList.getD 31 0%128);unfold tY qs;have f:=(s.data.toList.getD 31 0).toNat_lt;rw[UInt8.toNat_mod,show (128:UInt8).toNat=128 from rfl]at b;rw[b,d];generalize (s.data.toList.getD 31 0).toNat=c at f;generalize aR (s.data.toList.take 31)=A at h2;constructor
 .omega
 .split
  .rename_i e;rw[decide_eq_true_iff]at e;omega
  .rename_i e;rw[decide_eq_true_iff]at e;omega
theorem MG(s:Qb)(a:s.size=32):(tY s).length=32:=by
 unfold tY;rw[Qp];simpa using a
theorem Gc{s:Qb}(l:s.size=32){p:jc}(h:aR s.data.toList=enc p):∃a,cW s=some a/\Qe a p:=by
 obtain⟨F,n⟩:=IG s l;have b:=xD s;have G:=Sp p.y;have v:qs s=(cI p.x%2==1):=by
  unfold enc at h;rw[QB,beq_iff_eq];constructor
  .intro e;rw[if_pos e]at n;omega
  .intro e;cases B:qs s with
   |true=>rfl
   |false=>rw[B]at n;rw[if_neg dd]at n;omega
 have r:aR s.data.toList%57896044618658097711785492504343953926634992332820282019728792003956564819968=cI p.y:=by
  unfold enc at h;omega
 have g:aB (aG s)=p.y:=by rw[E8 s l,r,tF]
 have A:bF (aG s)=tY s:=by
  refine pu (by rw[iE,MG s l]) ?_;rw[nO b.1 b.bd2,g,F,r]
 have c:=LW b;rw[g]at c;have k:p.y*p.y-p.x*p.x-1-ak kV*p.x*p.x*p.y*p.y=0:=p.on;have m:aB (om (aG s))=p.x*p.x:=by
  refine jT Gf_S (Az p.y) ?_;generalize aB (om (aG s))=t at c;generalize ak kV=d at c k|-;generalize p.x=x at c k|-;generalize p.y=y at c k|-;grind
 have u:=xC _ b;have i:=tX _ b;have j:=vQ _ b;have D:=Gu p.x _ _ m (Wb (aG s));have o:=xJ (aA _ _ i i) u;have w:=xJ (aA _ _ j j) u;rw[eO]at o w;have E:=T8 (aG s);unfold cW;rw[if_pos A];by_cases f:rW (af (jP (aG s)) (jP (aG s))) (om (aG s))=true
 .rw[if_pos f];exact Eu i b v ((o.1 f).trans m) g
 .rw[if_neg f];have C:=D.resolve_left (λe=>f (o.2 e));have q:aB (jI (aG s))*aB (jI (aG s))=aB (om (aG s)):=by
   rw[E,C];generalize aB (om (aG s))=z;grind
  rw[if_pos (w.2 q)];exact Eu j b v (q.trans m) g
theorem Yp{s:Qb}(A:s.size=32){a:Qg}(h:cW s=some a):∃p,Qe a p/\aR s.data.toList=enc p:=by
 obtain⟨C,n⟩:=IG s A;have f:=xD s;have q:=xC _ f;have k:=tX _ f;have l:=vQ _ f;have u:=xJ (aA _ _ k k) q;have v:=xJ (aA _ _ l l) q;rw[eO]at u v;have B:bF (aG s)=tY s/\ ∃b,Qd b/\aB b*aB b=aB (om (aG s))/\kI b=qs s/\a=⟨b,aG s,am 1,af b (aG s)⟩:=by
  unfold cW at h;split at h
  .rename_i j
   refine⟨j,?_⟩;split at h
   .rename_i c
    obtain⟨b,g,e,o,m⟩:=LX k h;exact⟨b,g,e.trans (u.1 c),o,m⟩
   .split at h
    .rename_i c
     obtain⟨b,g,e,o,m⟩:=LX l h;exact⟨b,g,e.trans (v.1 c),o,m⟩
    .cases h
  .cases h
 obtain⟨j,x,r,z,w,rfl⟩:=B;have i:=LW f;rw[<-z]at i;have on:jd Gf_S (aB x) (aB (aG s)):=by
  unfold jd;rw[B6];generalize ak kV=d at i|-;generalize aB (aG s)=y at i|-;generalize aB x=x at i|-;grind
 refine⟨⟨aB x,aB (aG s),on⟩,CM r f rfl rfl,?_⟩;show aR s.data.toList=cI (aB (aG s))+57896044618658097711785492504343953926634992332820282019728792003956564819968*(cI (aB x)%2)
 have t:=yS r;rw[<-nO f.1 f.bd2,j,C];rw[w]at t;rw[t]at n;by_cases c:cI (aB x)%2=1
 .rw[if_pos (by rw[c];rfl)]at n;omega
 .rw[if_neg (by rw[beq_iff_eq];exact c)]at n;omega
theorem T7(s:Qb)(b:s.size=32):(∃a p,cW s=some a/\(jF s.data.toList).2=true/\Qe a p/\Qf (jF s.data.toList).1 p)\/(cW s=none/\(jF s.data.toList).2=false):=by
 have g:s.data.toList.length=32:=by simpa using b
 cases h:cW s with
 |some a=>
  obtain⟨p,i,e⟩:=Yp b h;obtain⟨f,j⟩:=R9 g e;exact Or.inl ⟨a,p,rfl,f,i,j⟩
 |none=>
  right
  refine⟨rfl,?_⟩;cases c:(jF s.data.toList).2 with
  |false=>rfl
  |true=>
   obtain⟨p,_,e⟩:=Y5 c;obtain⟨a,d,_⟩:=Gc b e;rw[h]at d;cases d
theorem Wg(a b:Nat)(h:(a*b)%bW=1%bW):oT (ak a)=ak b:=by
 have e:ak a*ak b=1:=by rw[<-jC,<-mw,gQ,h]
 have c:ak a≠0:=by
  intro d;rw[d]at e;apply pF Gf_S
  generalize ak b=x at e;grind
 have f:=tH _ c;exact jT Gf_S c (by rw[f,e])
def Yt:Nat:=11579208923731619542357098500868790785326998466564056403945758400791312963990
theorem Rm:aB jv=Gf_B.y:=by
 have a:aB (am 4)=ak 4:=oE 4;have b:aB (am 5)=ak 5:=oE 5;unfold jv;rw[eO,uV,a,b,Wg 5 Yt dk,<-jC];show _=ak pC
 rw[gQ];decide+kernel
theorem CO:Qe da Gf_B:=by
 have c:(⟨(bF jv).toArray⟩:ByteArray).size=32:=by
  show(bF jv).toArray.size=32
  rw[List.size_toArray,iE]
 obtain⟨a,b,d⟩:=Gc (s:=⟨(bF jv).toArray⟩) c (p:=Gf_B) (by
  show aR (bF jv)=_
  rw[nO Qj.1 Qj.bd2,Rm];unfold enc;rw[show cI Gf_B.x%2=0 by decide+kernel];exact(Nat.add_zero _).symm)
 unfold da jQ;rw[b];exact d
theorem tu{s:Qb}(c:s.size=32){p:Qg}{P:jc}(h:Qe p P):Qe (bU s p) (cm Gf_S (aR s.data.toList) P):=by
 have a:s.data.toList.length=32:=by simpa using c
 have b:=pq s.data.toList;rw[a]at b;have:=Gd (f:=mH s) h n8 Gb (aR s.data.toList) 256 b (λi d=>by
  rw[vL _ _ (by rw[a];omega)];unfold mH byt;generalize (s.data.toList.getD (i/8) 0).toNat=x;generalize i%8=r;have h:(x:Int)/2^r%2=((x/2^r%2:Nat):Int):=ss
  rw[h,QB,beq_iff_eq,beq_iff_eq];omega) 256 oo
 rw[Nat.sub_self,Nat.pow_zero,Nat.div_one]at this;exact this
theorem Rp_Is.neg{a:Qg}{p:jc}(h:Qe a p):Qe ⟨au (am 0) a.x,a.y,a.z,au (am 0) a.t⟩ (jE Gf_S p):=by
 obtain⟨⟨f,g,i,j⟩,r,t⟩:=h;have d:=bl (am 0) a.x f8 f;have e:=bl (am 0) a.t f8 j;have b:=xW a.x;have c:=xW a.t;generalize au (am 0) a.x=l at d b;generalize au (am 0) a.t=k at e c;unfold Qe;refine⟨Rp_Fine.of d g i e,?_⟩;dsimp only;rw[b,c,t];exact⟨Ed_Rep.neg Gf_S r,aat p.x p.y (aB a.z)⟩
theorem IE(s:Qb):s.data.toList.length=s.size:=ss
theorem Ov{a b:Qb}(h:a.data.toList=b.data.toList):a=b:=by
 cases a;cases b
 simp only[ByteArray.mk.injEq];exact Array.toList_inj.1 h
theorem IA(l:Qu):(⟨l.toArray⟩:ByteArray).data.toList=l:=rfl
theorem Ga(s:Qb):(fQ ai s).data.toList=aj ai s.data.toList:=by unfold fQ;exact IA _
theorem Ot{a:Qb}{l:Qu}(h:a.data.toList=l):a=⟨l.toArray⟩:=by subst h;cases a;rfl
theorem Ep(s:Qb):(o9 s).data.toList=aj ai s.data.toList:=by unfold o9;exact Ga s
theorem IF(a b:Qb):(a++b).data.toList=a.data.toList++b.data.toList:=ss
theorem xB(s:Qb)(i j:Nat):(s.extract i j).data.toList=(s.data.toList.take j).drop i:=by
 simp[List.drop_take]
theorem Dp(s:Qb):aR (im s).data.toList%be=bZ (iM (aj ai) s.data.toList):=by
 unfold iM;rw[(lk _).2];have e:(im s).data.toList=eV ((aj ai s.data.toList).take 32):=by
  unfold im;rw[IA,zx];unfold pf;rw[xB,Qq,Ga]
 rw[e]
theorem CD{n:Nat}(h:n<be):aR (fS n).data.toList=n:=by
 unfold fS;rw[IA,AE,Qx (Nat.lt_trans h dk)]
theorem zt{a:Qg}{b:Cv_Pn}{p q:jc}(c:Qe a p)(d:Qf b q)(e:p=q):(⟨(oQ a).toArray⟩:ByteArray).data.toList=bJ b:=by
 subst e;rw[IA];exact c.told d
theorem Dr(s:Qb):(dL s).data.toList=dq (aj ai) s.data.toList:=by
 have a:=tu (wV s) CO;have h2:=Qi.times (n:=iM (aj ai) s.data.toList) (lk _).1;unfold dL dq;refine zt a h2 ?_;rw[<-Dp,Kt]
theorem Eo(s d:Qb):jH s d=bZ (pc (aj ai) s.data.toList d.data.toList):=by
 unfold pc jH ll;rw[(lk _).2,Ep,IF];have e:(mF s).data.toList=oJ (aj ai) s.data.toList:=by
  unfold mF oJ;rw[xB,Qk (by rw[IE];exact Nat.le_of_eq (fR ai s)),Ep]
 rw[e]
theorem T0(s d:Qb):jH s d<be:=Qy _ wU
theorem Ds(s d:Qb):(eI s d).data.toList=Sg_first (aj ai) s.data.toList d.data.toList:=by
 have a:=tu (oB (jH s d)) CO;have h2:=Qi.times (n:=pc (aj ai) s.data.toList d.data.toList) (lk _).1;unfold eI Sg_first;refine zt a h2 ?_;rw[CD (T0 s d),Eo]
theorem F7(f i d:Qb):ji f i d=bZ (ol (aj ai) f.data.toList i.data.toList d.data.toList):=by
 unfold ol ji ll;rw[(lk _).2,Ep,IF,IF]
theorem Ou(s d:Qb):oK s d=bZ (rQ (aj ai) s.data.toList d.data.toList):=by
 rw[(El _ _ _).2,<-Dp,<-Ds,<-Dr,<-F7,<-Eo];unfold oK BC ll;rw[Nat.add_mod_mod,Nat.mul_comm,QA,Qz,<-Qz (ji _ _ _),QA (jH s d) (ji _ _ _*_),Nat.mul_mod_mod]
theorem T5(s d:Qb):oK s d<be:=Qy _ wU
theorem V9(f i d:Qb):ji f i d<be:=Qy _ wU
theorem Oq(s d:Qb):(rR s d).data.toList=nc (aj ai) s.data.toList d.data.toList:=by
 have a:=(El (aj ai) s.data.toList d.data.toList).1;have h:(fS (oK s d)).data.toList=mm (rQ (aj ai) s.data.toList d.data.toList):=by
  refine pu ?_ ?_
  .rw[IE,oB,pv]
  .rw[vO _ a.1,<-Ou,CD (T5 s d)]
 unfold rR nc;rw[IF,Ds,h]
theorem F8{l:Qu}(h:l.length=32):(mm (iX l)=l)↔aR l<be:=by
 constructor
 .intro e;rcases Nat.lt_or_ge (aR l) be with c|c
  .exact c
  .exact absurd e (KV c)
 .intro c;obtain⟨f,v⟩:=lk l;refine pu (by rw[pv,h]) ?_;rw[vO _ f.1,v,Qx c]
theorem Dq(i d g:Qb)(s:i.size=32)(r:g.size=64):wT i d g=jM (aj ai) i.data.toList d.data.toList g.data.toList:=by
 have f:(g.extract 0 32).data.toList=g.data.toList.take 32:=by rw[xB,Qq]
 have j:(g.extract 32 64).data.toList=g.data.toList.drop 32:=by
  rw[xB,Qk (by rw[IE];omega)]
 have k:(g.data.toList.drop 32).length=32:=by rw[List.length_drop,IE];omega
 have u:(g.extract 32 64).size=32:=by rw[ByteArray.size_extract,r];rfl
 unfold wT jM ll;rw[j];rcases T7 i s with ⟨a,p,o,b,v,w⟩|⟨q,b⟩
 .rw[o,b,if_pos rfl];by_cases c:aR (g.data.toList.drop 32)<be
  .rw[if_pos ((F8 k).2 c),decide_eq_true c];have t:iQ (iX (g.data.toList.drop 32)):=(lk _).1;have ht:iQ (ol (aj ai) (g.data.toList.take 32) i.data.toList d.data.toList):=(lk _).1;have x:=tu u CO;have y:=tu (oB (ji (g.extract 0 32) i d)) v.neg;have z:=x.sum y n8 Gb;have l:=Qi.times t;have m:=(w.times ht).neg;have n:=l.plus m;have e:(wS a i d g).data.toList=yY (aj ai) (jF i.data.toList).1 i.data.toList d.data.toList (g.data.toList.take 32) (iX (g.data.toList.drop 32)):=by
    unfold wS yY km;refine zt z n ?_;rw[UD,CD (V9 _ _ _),F7,f,j,(lk (g.data.toList.drop 32)).2,Kt]
   show(true&&true&&decide (wS a i d g=g.extract 0 32))=_
   rw[Bool.and_self,Bool.true_and,QB,decide_eq_true_iff,decide_eq_true_iff,<-e,<-f];exact⟨λh=>by rw[h],λh=>Ov h⟩
  .rw[if_neg (λh=>c ((F8 k).1 h)),decide_eq_false c];rfl
 .rw[q,b,if_neg dd];show(_&&false&&_)=false
  rw[Bool.and_false,Bool.false_and]
theorem F9(s:Qb):dL s=⟨(dq (aj ai) s.data.toList).toArray⟩:=Ot (Dr s)
theorem Iz(s d:Qb):rR s d=⟨(nc (aj ai) s.data.toList d.data.toList).toArray⟩:=Ot (Oq s d)
open Go.RowKit
theorem xR(s:Qb)(w:World)(d:s.size<=140737488351232)(b:Bool)(c:decide (¬(s.size=32))=b):
  Hid (Calls QH 24 #[.slice (some ⟨w.heap.size,0,none⟩) 1 1] (w.alloc (QC (Ss [s]) 9)) λe w'=>e=.returned (.bool b)/\w'=w.alloc (QC (Ss [s]) 9)):=by
 have a:=nI s w d;rw[c]at a;exact a
theorem Lr(s d:Qb)(w:World)(f:d.size<=140737488351232)(b:Bool)(c:decide (12000<d.size)=b):
  Hid (Calls QH 27 #[.int .i64 12000,.slice (some ⟨w.heap.size+1,0,none⟩) 1 1] ((w.alloc (QC (Ss [s]) 9)).alloc (QC (Ss [d]) 9)) λe w'=>e=.returned (.bool b)/\w'=(w.alloc (QC (Ss [s]) 9)).alloc (QC (Ss [d]) 9)):=by
 have a:=AK d 12000 (w.alloc (QC (Ss [s]) 9)) oo f;rw[c,show (w.alloc (QC (Ss [s]) 9)).heap.size=w.heap.size+1 by simp]at a;exact a
theorem Uf(s:Qb)(w:World)(f:s.size<=140737488351232)(b:Tab ai w):
  Rw 13 #[QI s] w (.tuple #[QI (iP s).1,.int .i64 (iP s).2]):=by
 by_cases h:s.size=32
 .have a:iP s=(⟨(dq (aj ai) s.data.toList).toArray⟩,0):=by unfold iP;rw[if_pos h,F9]
  rw[a];exact OX ai s w h b
 .have a:iP s=(⟨#[]⟩,1):=by unfold iP;rw[if_neg h]
  rw[a];have d:Below w.heap.size w (w.alloc (QC (Ss [s]) 9)):=bR.alloc nR _;have c:=xR s w f true (decide_eq_true h);clear a h b;go_enter Tryz.func13,Tryz.ntmps13;go_wp2_with fail;refine c.out.mono ?_;rintro e w' ⟨rfl,rfl⟩;go_wp2;go_ret2;exact⟨rfl,d⟩
theorem ace(s d:Qb)(w:World)(i:s.size<=140737488351232)(l:d.size<=140737488351232)(f:Tab ai w):
  Rw 99 #[QI s,QI d] w (.tuple #[QI (eH s d).1,.int .i64 (eH s d).2]):=by
 have c:Below w.heap.size w (w.alloc (QC (Ss [s]) 9)):=bR.alloc nR _;by_cases h:s.size=32
 .have b:=xR s w i false (decide_eq_false (not_not_intro h));by_cases h2:d.size<=12000
  .have a:eH s d=(⟨(nc (aj ai) s.data.toList d.data.toList).toArray⟩,0):=by unfold eH;rw[if_pos ⟨h,h2⟩,Iz]
   rw[a];exact Yh ai s d w h h2 f
  .have a:eH s d=(⟨#[]⟩,1):=by unfold eH;rw[if_neg (λg=>h2 g.2)]
   rw[a];have k:Below w.heap.size w ((w.alloc (QC (Ss [s]) 9)).alloc (QC (Ss [d]) 9)):=c.alloc ss _;have j:=Lr s d w l true (decide_eq_true oo);clear a h f c h2;go_enter QG,QE;go_wp2_with fail;refine b.out.mono ?_;rintro e w' ⟨rfl,rfl⟩;go_wp2_with fail;refine j.out.mono ?_;rintro e w' ⟨rfl,rfl⟩;go_wp2;go_ret2;exact⟨rfl,k⟩
 .have a:eH s d=(⟨#[]⟩,1):=by unfold eH;rw[if_neg (λg=>h g.1)]
  rw[a];have b:=xR s w i true (decide_eq_true h);clear a h f;go_enter QG,QE;go_wp2_with fail;refine b.out.mono ?_;rintro e w' ⟨rfl,rfl⟩;go_wp2;go_ret2;exact⟨rfl,c⟩
theorem Yz(i d g:Qb)(w:World)(l:i.size<=140737488351232)(o:d.size<=140737488351232)(k:Tab ai w):
  Rw 101 #[QI i,QI d,QI g] w (.bool (jN i d g)):=by
 have j:Below w.heap.size w (w.alloc (QC (Ss [i]) 9)):=bR.alloc nR _;by_cases h:i.size=32
 .have f:=xR i w l false (decide_eq_false (not_not_intro h));by_cases h2:d.size<=12000
  .have a:jN i d g=if g.size=64 then jM (aj ai) i.data.toList d.data.toList g.data.toList else false:=by
    unfold jN;by_cases b:g.size=64
    .rw[if_pos ⟨h,h2,b⟩,if_pos b,Dq i d g h b]
    .rw[if_neg (λc=>b c.2.2),if_neg b]
   rw[a];exact TG ai i d g w h h2 k
  .have a:jN i d g=false:=by unfold jN;rw[if_neg (λc=>h2 c.2.1)]
   rw[a];have n:Below w.heap.size w ((w.alloc (QC (Ss [i]) 9)).alloc (QC (Ss [d]) 9)):=j.alloc ss _;have m:=Lr i d w o true (decide_eq_true oo);clear a h k j h2;go_enter QF,QD;go_wp2_with fail;refine f.out.mono ?_;rintro e w' ⟨rfl,rfl⟩;go_wp2_with fail;refine m.out.mono ?_;rintro e w' ⟨rfl,rfl⟩;go_wp2;go_ret;exact⟨rfl,n⟩
 .have a:jN i d g=false:=by unfold jN;rw[if_neg (λc=>h c.1)]
  rw[a];have f:=xR i w l true (decide_eq_true h);clear a h k;go_enter QF,QD;go_wp2_with fail;refine f.out.mono ?_;rintro e w' ⟨rfl,rfl⟩;go_wp2;go_ret;exact⟨rfl,j⟩
end Go.Proofs.YtclpbaokadfhhaaGreatDoor
