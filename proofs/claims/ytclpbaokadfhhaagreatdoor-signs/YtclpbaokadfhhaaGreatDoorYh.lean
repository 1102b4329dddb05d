import Derived.Test.YtclpbaokadfhhaaGreatDoorAg1
import Derived.Test.YtclpbaokadfhhaaGreatDoorZu
import Derived.Test.YtclpbaokadfhhaaGreatDoorYf
import Derived.Test.YtclpbaokadfhhaaGreatDoorYd
set_option maxRecDepth 100000
set_option maxHeartbeats 2000000
namespace Go.Proofs.YtclpbaokadfhhaaGreatDoor
open Gf (Fp ofN)
theorem Fd.xO{a:List Int}(ha:Fd.Good a):Fd.odd a=(Gf.toN (Fd.fr a)%2==1):=by
 have h:=Fd.xr ha.1 ha.bd2;have hl:=Fd.us a;unfold Fd.odd;rw[←h];generalize Fd.told a=l at hl;match l,hl with
 |x::m,_=>
  show((x.toNat:Int)%2==1)=(Sc.num (x::m)%2==1)
  rw[Sc.num,Bool.eq_iff_iff,beq_iff_eq,beq_iff_eq];omega
theorem Fd.xt{a b:List Int}(ha:Fd.Good a)(hb:Fd.Good b):Fd.yr a b=true↔Fd.fr a=Fd.fr b:=by
 unfold Fd.yr;rw[decide_eq_true_iff];exact Fd.told_eq ha.1 ha.bd2 hb.1 hb.bd2
namespace Sc
theorem zQ(l:List UInt8)(h:l.length=32):num l=num (l.take 31)+452312848583266388373324160190187140051835877600158453279131187530910662656*(l.getD 31 0).toNat:=by
 have e:l.drop 31= [l.getD 31 0]:=by
  rw[List.drop_eq_getElem_cons (by omega),List.drop_of_length_le (by omega)];simp[List.getD,h]
 have h2:=Fd.u6 (l.take 31) (l.drop 31);rw[List.take_append_drop,e,List.length_take,h]at h2;rw[h2];simp[num]
theorem take_lt(l:List UInt8)(h:l.length=32):num (l.take 31)<452312848583266388373324160190187140051835877600158453279131187530910662656:=by
 have:=yJ (l.take 31);rw[List.length_take,h]at this;exact this
theorem Al(l:List UInt8)(h:l.length=32)(x:UInt8):num (l.set 31 x)=num (l.take 31)+452312848583266388373324160190187140051835877600158453279131187530910662656*x.toNat:=by
 rw[zQ _ (by rw[List.length_set,h]),List.take_set_of_le (by omega),Ff.zY _ _ _ (by omega)]
end Sc
def enc(p:Gf.Pt):Nat:=Gf.toN p.y+57896044618658097711785492504343953926634992332820282019728792003956564819968*(Gf.toN p.x%2)
theorem kR(x:Fp):Gf.toN x<57896044618658097711785492504343953926634992332820282019728792003956564819949:=Gf.toN_lt x
theorem rM(x b:UInt8)(hx:x.toNat<128)(hb:b.toNat<2):(x|||(b<<<7)).toNat=x.toNat+128*b.toNat:=by
 have key: ∀(x:Fin 128) (b:Fin 2),(x.val.toUInt8|||(b.val.toUInt8<<<7)).toNat=x.val+128*b.val:=by decide+kernel
 have:=key ⟨x.toNat,hx⟩ ⟨b.toNat,hb⟩;simpa using this
theorem Cv.bytes_num{a:Cv.Pn}{p:Gf.Pt}(h:Cv.Is a p):Sc.num (Cv.bytes a)=enc p:=by
 obtain⟨s1,v1⟩:=h.xq;obtain⟨s2,v2⟩:=h.yq;have hl:=Cv.yF a;have ht:((Cv.yb a).getD 31 0).toNat<128:=by unfold Cv.yb;exact Ff.zJ s2
 have hv:(Cv.xb a).toNat=Gf.toN p.x%2:=by unfold Cv.xb;rw[Ff.xc s1,v1]
 have hn:Sc.num (Cv.yb a)=Gf.toN p.y:=by unfold Cv.yb;rw[Ff.bytes_num s2,v2]
 rw[Sc.zQ _ hl]at hn;unfold Cv.bytes enc;rw[Sc.Al _ hl,rM _ _ ht (by omega),hv];omega
theorem Ff.any(x:Fp): ∃l,Ff.Small l∧Ff.fe l=x:=by
 have h:=kR x;have hv:Sc.val [BitVec.ofNat 64 (Gf.toN x),BitVec.ofNat 64 (Gf.toN x/18446744073709551616),BitVec.ofNat 64 (Gf.toN x/340282366920938463463374607431768211456),BitVec.ofNat 64 (Gf.toN x/6277101735386680763835789423207666416102355444464034512896)]=Gf.toN x:=by
  rw[Sc.val4,BitVec.toNat_ofNat,BitVec.toNat_ofNat,BitVec.toNat_ofNat,BitVec.toNat_ofNat];omega
 refine⟨Ff.of (Sc.bytes [BitVec.ofNat 64 (Gf.toN x),BitVec.ofNat 64 (Gf.toN x/18446744073709551616),BitVec.ofNat 64 (Gf.toN x/340282366920938463463374607431768211456),BitVec.ofNat 64 (Gf.toN x/6277101735386680763835789423207666416102355444464034512896)]),Ff.wU _,?_⟩;unfold Ff.fe;rw[Ff.of_val _ (Sc.bytes_length _),Sc.bytes_num _ rfl,hv,Nat.mod_eq_of_lt (by omega),Gf.ofN_toN]
theorem Cv.any(p:Gf.Pt): ∃b,Cv.Is b p:=by
 obtain⟨l1,s1,e1⟩:=Ff.any p.x;obtain⟨l2,s2,e2⟩:=Ff.any p.y;refine⟨⟨l1,l2,Ff.one5⟩,s1,s2,Ff.uK,?_⟩;rw[e1,e2,Ff.xp];exact Ed.Rep.of Gf.S p
namespace Cv
open Ff (W fe Small zero5 one5 times)
theorem made_is{s:List UInt8}(h:(Ff.wD (zd (Ff.of s))).2=true): ∃p,Is (made s) p:=by
 obtain⟨st,vt⟩:=tried_fe (Ff.wU s);obtain⟨sr,vr⟩:=Ff.root_is st h;obtain⟨sn,vn⟩:=Ff.xZ sr;have hx: ∃x,Small (turned (Ff.wD (zd (Ff.of s))).1 (s.getD 31 0>>>7))∧fe (turned (Ff.wD (zd (Ff.of s))).1 (s.getD 31 0>>>7))=x∧x*x=fe (zd (Ff.of s)):=by
  unfold turned;split
  ·exact⟨_,sr,rfl,vr⟩
  ·refine⟨_,sn,rfl,?_⟩;rw[vn,←vr];generalize fe (Ff.wD (zd (Ff.of s))).1=z;grind
 obtain⟨x,sx,ex,hx⟩:=hx;have on:Ed.On Gf.S x (fe (Ff.of s)):=by
  unfold Ed.On;rw[S_d];rw[←hx]at vt;generalize ofN Gf.D=d at vt⊢;generalize fe (Ff.of s)=y at vt⊢;clear hx;grind
 refine⟨⟨x,fe (Ff.of s),on⟩,?_⟩;unfold Is made;dsimp only;refine⟨sx,Ff.wU _,Ff.uK,?_⟩;rw[ex,Ff.xp];exact Ed.Rep.of Gf.S ⟨x,fe (Ff.of s),on⟩
theorem of_is{s:List UInt8}(h:(of s).2=true): ∃p,Is (of s).1 p∧Sc.num s=enc p:=by
 have key:(Ff.wD (zd (Ff.of s))).2=true∧bytes (made s)=s:=by
  unfold of at h;split at h
  ·split at h
   ·rename_i h1 h2;exact⟨h1,h2⟩
   ·cases h
  ·cases h
 obtain⟨p,hp⟩:=made_is key.1;refine⟨p,?_,?_⟩
 ·unfold of;rw[if_pos key.1,if_pos key.2];exact hp
 ·have:=bytes_num hp;rw[key.2]at this;exact this
theorem of_found{s:List UInt8}(hs:s.length=32){p:Gf.Pt}(h:Sc.num s=enc p):(of s).2=true∧Is (of s).1 p:=by
 obtain⟨b,hb⟩:=Cv.any p;have e:bytes b=s:=Sc.wQ (by rw[bytes_length,hs]) (by rw[bytes_num hb,h]);obtain⟨c,hc,ic⟩:=of_bytes hb;rw[e]at hc;rw[hc];exact⟨rfl,ic⟩
end Cv
namespace Rp
open Go.Proofs.YtclpbaokadfhhaaGreatDoor.Fd (fr by_ plus minus small)
theorem Is.xq{a:Pn}{p:Gf.Pt}(h:Is a p):Fd.Good (by_ a.x (Fd.inv a.z))∧fr (by_ a.x (Fd.inv a.z))=p.x:=by
 refine⟨Fd.tN _ _ h.1.1 (Fd.uv _ h.1.2.2.1),?_⟩;have:=Ed.Rep.x Gf.S h.2.1;rw[Cv.S_inv]at this;rw[Fd.uG,Fd.yi,this]
theorem Is.yq{a:Pn}{p:Gf.Pt}(h:Is a p):Fd.Good (by_ a.y (Fd.inv a.z))∧fr (by_ a.y (Fd.inv a.z))=p.y:=by
 refine⟨Fd.tN _ _ h.1.2.1 (Fd.uv _ h.1.2.2.1),?_⟩;have:=Ed.Rep.y Gf.S h.2.1;rw[Cv.S_inv]at this;rw[Fd.uG,Fd.yi,this]
theorem set_self(l:List UInt8)(k:Nat)(h:k<l.length):l.set k (l.getD k 0)=l:=by
 apply List.ext_getElem?
 intro i;by_cases e:k=i
 ·subst e;rw[List.getElem?_set_self h];simp[List.getD,h]
 ·rw[List.getElem?_set_ne e]
theorem Is.told{a:Pn}{b:Cv.Pn}{p:Gf.Pt}(ha:Is a p)(hb:Cv.Is b p):bytes a=Cv.bytes b:=by
 obtain⟨g1,f1⟩:=ha.xq;obtain⟨g2,f2⟩:=ha.yq;obtain⟨s1,v1⟩:=hb.xq;obtain⟨s2,v2⟩:=hb.yq;have ey:Fd.told (by_ a.y (Fd.inv a.z))=Cv.yb b:=by unfold Cv.yb;exact eS g2 s2 (by rw[f2,v2])
 have hv:(Cv.xb b).toNat=Gf.toN p.x%2:=by unfold Cv.xb;rw[Ff.xc s1,v1]
 have ho:=Fd.xO g1;rw[f1]at ho;unfold Rp.bytes Cv.bytes;rw[ey,ho];have hl:=Cv.yF b;generalize Cv.yb b=l at hl;generalize Cv.xb b=x at hv;by_cases h:Gf.toN p.x%2=1
 ·have e:x=1:=UInt8.toNat.inj (by rw[hv,h];rfl);rw[if_pos (by rw[h];rfl),e];rfl
 ·have e:x=0:=UInt8.toNat.inj (by rw[hv];show _=0;omega);rw[if_neg (by rw[beq_iff_eq];exact h),e,show ((0:UInt8)<<<7)=0 from rfl,UInt8.or_zero,set_self _ _ (by omega)]
theorem ofX_ev:Fd.ev (Fd.ones [0] 252) 252=7237005577332262213973186563042994240829374041602535252466099000494570602494:=by decide+kernel
theorem im_ev:Fd.ev (Fd.ones [0,1,1] 253) 253=14474011154664524427946373126085988481658748083205070504932198000989141204987:=by decide+kernel
theorem two_pow:Pr.pm Pr.P 256 2 28948022309329048855892746252171976963317496166410141009864396001978282409974=57896044618658097711785492504343953926634992332820282019728792003956564819948:=by decide+kernel
theorem im_sq'(a:Nat)(h:Pr.pm Pr.P 256 a 28948022309329048855892746252171976963317496166410141009864396001978282409974=57896044618658097711785492504343953926634992332820282019728792003956564819948):Gf.pw (ofN a) 14474011154664524427946373126085988481658748083205070504932198000989141204987*Gf.pw (ofN a) 14474011154664524427946373126085988481658748083205070504932198000989141204987= -1:=by
 have e0:=Gf.pw_add (ofN a) 14474011154664524427946373126085988481658748083205070504932198000989141204987 14474011154664524427946373126085988481658748083205070504932198000989141204987;rw[show 14474011154664524427946373126085988481658748083205070504932198000989141204987+14474011154664524427946373126085988481658748083205070504932198000989141204987=28948022309329048855892746252171976963317496166410141009864396001978282409974 from rfl,←Gf.ofN_pow]at e0;have h2:=h.symm.trans (Pr.pm_eq Pr.P 256 a 28948022309329048855892746252171976963317496166410141009864396001978282409974 (by omega));have e1:=Gf.ofN_mod (a^28948022309329048855892746252171976963317496166410141009864396001978282409974);rw[←h2]at e1;refine(e0.symm.trans e1.symm).trans ?_;clear e0 e1 h2 h;have e:ofN (57896044618658097711785492504343953926634992332820282019728792003956564819948+1)=ofN 0:=by rw[Gf.ofN_eq];decide+kernel
 rw[Gf.ofN_add,Gf.ofN_one,Gf.ofN_zero]at e;generalize ofN 57896044618658097711785492504343953926634992332820282019728792003956564819948=z at e⊢;grind
theorem im_sq:Gf.pw (ofN 2) 14474011154664524427946373126085988481658748083205070504932198000989141204987*Gf.pw (ofN 2) 14474011154664524427946373126085988481658748083205070504932198000989141204987= -1:=im_sq' 2 two_pow
theorem ofX_fr(y:List Int):fr (ofX y)=Gf.pw (fr (ofW y)) 7237005577332262213973186563042994240829374041602535252466099000494570602494:=by
 have hl:(Fd.ones [0] 252).length=252:=by unfold Fd.ones;rw[List.length_append,List.length_replicate];rfl
 unfold ofX Fd.pow;rw[hl,Fd.zZ,ofX_ev]
theorem im_fr:fr (Fd.pow (small 2) (Fd.ones [0,1,1] 253))=Gf.pw (ofN 2) 14474011154664524427946373126085988481658748083205070504932198000989141204987:=by
 have hl:(Fd.ones [0,1,1] 253).length=253:=by unfold Fd.ones;rw[List.length_append,List.length_replicate];rfl
 unfold Fd.pow;rw[hl,Fd.zZ,im_ev,show fr (small 2)=ofN 2 from Fd.wk 2]
theorem ofX2_fr(y:List Int):fr (yp y)*fr (yp y)= -(fr (ofX y)*fr (ofX y)):=by
 unfold yp;rw[Fd.uG,im_fr];have h:=im_sq;generalize Gf.pw (ofN 2) 14474011154664524427946373126085988481658748083205070504932198000989141204987=i at h⊢;generalize fr (ofX y)=r;grind
theorem ofW_fr{y:List Int}(hy:Fd.Good y):fr (ofW y)*(ofN Gf.D*(fr y*fr y)+1)=fr y*fr y - 1:=by
 have yy:=Fd.tN _ _ hy hy;have dy:=Fd.tN _ _ ur yy;unfold ofW;rw[Fd.uG,Fd.uJ _ _ yy.1,Fd.uG,Fd.yi,Fd.u9 _ _ dy.1,Fd.uG,Fd.uG,factor_fr,one_fr,Cv.S_d];have hn:=Gf.mul_inv _ (Cv.BC (fr y));generalize ofN Gf.D*(fr y*fr y)+1=n at hn⊢;generalize Gf.inv n=m at hn⊢;generalize fr y*fr y - 1=t;grind
theorem neg_fr(x:List Int):fr (minus (small 0) x)= -fr x:=by
 rw[Fd.uJ _ _ wF.1,zero_fr];generalize fr x=z;grind
theorem by1(a b:Fp):a*b=a*b*1:=by grind
theorem negm(x y z:Fp): -(x*y*z)= -x*y*z:=by grind
theorem mk_is{x y:List Int}(hx:Fd.Good x)(hy:Fd.Good y){p:Gf.Pt}(ex:fr x=p.x)(ey:fr y=p.y):Is ⟨x,y,small 1,by_ x y⟩ p:=by
 have g:=Fd.tN x y hx hy;have e:fr (by_ x y)=p.x*p.y:=by rw[Fd.uG,ex,ey]
 generalize by_ x y=t at g e;have o:=one_fr;have g1:=zj;generalize small 1=u at o g1;unfold Is;refine⟨Fine.of hx hy g1 g,?_⟩;dsimp only;rw[e,ex,ey,o];exact⟨Ed.Rep.of Gf.S p,by1 p.x p.y⟩
theorem fin_found{x y:List Int}(hx:Fd.Good x)(hy:Fd.Good y){p:Gf.Pt}{bt:Bool}(hb:bt=(Gf.toN p.x%2==1))(h:fr x*fr x=p.x*p.x)(ey:fr y=p.y): ∃a,fin x y bt=some a∧Is a p:=by
 have hn:=Fd.tO _ _ wF hx;have ho:=Fd.xO hx;have ho2:=Fd.xO hn;rw[neg_fr]at ho2;have en:=neg_fr x;have hz:(fr x - p.x)*(fr x+p.x)=0:=by
  generalize fr x=z at h;grind
 unfold fin pickf;rcases Ed.eq_zero Gf.S hz with e|e
 ·have e:fr x=p.x:=by
   generalize fr x=z at e;grind
  rw[if_pos (by rw[ho,hb,e])];exact⟨_,rfl,mk_is hx hy e ey⟩
 ·have e:fr x= -p.x:=by
   generalize fr x=z at e;grind
  have e2: -fr x=p.x:=by rw[e];grind
  by_cases h0:p.x=0
  ·have e0:fr x=p.x:=by rw[e,h0];grind
   rw[if_pos (by rw[ho,hb,e0])];exact⟨_,rfl,mk_is hx hy e0 ey⟩
  ·have hne: ¬(Fd.odd x=bt):=by
    have:=Ff.Aw p.x h0;rw[ho,hb,e,Bool.eq_iff_iff,beq_iff_eq,beq_iff_eq];omega
   rw[if_neg hne,if_pos (by rw[ho2,hb,e2])];exact⟨_,rfl,mk_is hn hy (by rw[en,e2]) ey⟩
theorem fin_is{x y:List Int}{bt:Bool}{a:Pn}(hx:Fd.Good x)(h:fin x y bt=some a): ∃x',Fd.Good x'∧fr x'*fr x'=fr x*fr x∧Fd.odd x'=bt∧a=⟨x',y,small 1,by_ x' y⟩:=by
 unfold fin pickf at h;split at h
 ·rename_i e;injection h with h;exact⟨x,hx,rfl,e,h.symm⟩
 ·split at h
  ·rename_i e;injection h with h
   refine⟨_,Fd.tO _ _ wF hx,?_,e,h.symm⟩;rw[neg_fr];generalize fr x=z;grind
  ·cases h
theorem low_num(s:ByteArray)(hs:s.size=32):Sc.num (low s)=Sc.num s.data.toList%57896044618658097711785492504343953926634992332820282019728792003956564819968∧Sc.num s.data.toList/57896044618658097711785492504343953926634992332820282019728792003956564819968=(if Bc s=true then 1 else 0):=by
 have hl:s.data.toList.length=32:=by simpa using hs
 have h1:=Sc.zQ _ hl;have h2:=Sc.take_lt _ hl;have h3:=Sc.Al _ hl (s.data.toList.getD 31 0%128);unfold low Bc;have h4:=(s.data.toList.getD 31 0).toNat_lt;rw[UInt8.toNat_mod,show (128:UInt8).toNat=128 from rfl]at h3;rw[h3,h1];generalize (s.data.toList.getD 31 0).toNat=c at h4;generalize Sc.num (s.data.toList.take 31)=A at h2;constructor
 ·omega
 ·split
  ·rename_i e;rw[decide_eq_true_iff]at e;omega
  ·rename_i e;rw[decide_eq_true_iff]at e;omega
theorem low_length(s:ByteArray)(hs:s.size=32):(low s).length=32:=by
 unfold low;rw[List.length_set];simpa using hs
theorem of_found{s:ByteArray}(hs:s.size=32){p:Gf.Pt}(h:Sc.num s.data.toList=enc p): ∃a,ofB s=some a∧Is a p:=by
 obtain⟨n1,n2⟩:=low_num s hs;have hy:=num_good s;have hp:=kR p.y;have hb:Bc s=(Gf.toN p.x%2==1):=by
  unfold enc at h;rw[Bool.eq_iff_iff,beq_iff_eq];constructor
  ·intro e;rw[if_pos e]at n2;omega
  ·intro e;cases hh:Bc s with
   |true=>rfl
   |false=>rw[hh]at n2;rw[if_neg (by decide)]at n2;omega
 have em:Sc.num s.data.toList%57896044618658097711785492504343953926634992332820282019728792003956564819968=Gf.toN p.y:=by
  unfold enc at h;omega
 have ey:fr (Fd.num s)=p.y:=by rw[Fd.z6 s hs,em,Gf.ofN_toN]
 have et:Fd.told (Fd.num s)=low s:=by
  refine Sc.wQ (by rw[Fd.us,low_length s hs]) ?_;rw[Fd.xr hy.1 hy.bd2,ey,n1,em]
 have hw:=ofW_fr hy;rw[ey]at hw;have hon:p.y*p.y - p.x*p.x - 1 - ofN Gf.D*p.x*p.x*p.y*p.y=0:=p.on;have hsq:fr (ofW (Fd.num s))=p.x*p.x:=by
  refine Ed.cancel Gf.S (Cv.BC p.y) ?_;generalize fr (ofW (Fd.num s))=t at hw;generalize ofN Gf.D=d at hw hon⊢;generalize p.x=x at hw hon⊢;generalize p.y=y at hw hon⊢;grind
 have gw:=ofW_good _ hy;have gx:=ofX_good _ hy;have gx2:=ofX2_good _ hy;have hr:=Ff.pow_root p.x _ _ hsq (ofX_fr (Fd.num s));have s1:=Fd.xt (Fd.tN _ _ gx gx) gw;have s2:=Fd.xt (Fd.tN _ _ gx2 gx2) gw;rw[Fd.uG]at s1 s2;have hx2:=ofX2_fr (Fd.num s);unfold ofB;rw[if_pos et];by_cases c1:Fd.yr (by_ (ofX (Fd.num s)) (ofX (Fd.num s))) (ofW (Fd.num s))=true
 ·rw[if_pos c1];exact fin_found gx hy hb ((s1.1 c1).trans hsq) ey
 ·rw[if_neg c1];have hm:=hr.resolve_left (fun e=>c1 (s1.2 e));have e2:fr (yp (Fd.num s))*fr (yp (Fd.num s))=fr (ofW (Fd.num s)):=by
   rw[hx2,hm];generalize fr (ofW (Fd.num s))=z;grind
  rw[if_pos (s2.2 e2)];exact fin_found gx2 hy hb (e2.trans hsq) ey
theorem of_is{s:ByteArray}(hs:s.size=32){a:Pn}(h:ofB s=some a): ∃p,Is a p∧Sc.num s.data.toList=enc p:=by
 obtain⟨n1,n2⟩:=low_num s hs;have hy:=num_good s;have gw:=ofW_good _ hy;have gx:=ofX_good _ hy;have gx2:=ofX2_good _ hy;have s1:=Fd.xt (Fd.tN _ _ gx gx) gw;have s2:=Fd.xt (Fd.tN _ _ gx2 gx2) gw;rw[Fd.uG]at s1 s2;have key:Fd.told (Fd.num s)=low s∧ ∃x',Fd.Good x'∧fr x'*fr x'=fr (ofW (Fd.num s))∧Fd.odd x'=Bc s∧a=⟨x',Fd.num s,small 1,by_ x' (Fd.num s)⟩:=by
  unfold ofB at h;split at h
  ·rename_i et
   refine⟨et,?_⟩;split at h
   ·rename_i c
    obtain⟨x',g,e,o,ha⟩:=fin_is gx h;exact⟨x',g,e.trans (s1.1 c),o,ha⟩
   ·split at h
    ·rename_i c
     obtain⟨x',g,e,o,ha⟩:=fin_is gx2 h;exact⟨x',g,e.trans (s2.1 c),o,ha⟩
    ·cases h
  ·cases h
 obtain⟨et,x,gx',ex,eo,rfl⟩:=key;have hw:=ofW_fr hy;rw[←ex]at hw;have on:Ed.On Gf.S (fr x) (fr (Fd.num s)):=by
  unfold Ed.On;rw[Cv.S_d];generalize ofN Gf.D=d at hw⊢;generalize fr (Fd.num s)=y at hw⊢;generalize fr x=x at hw⊢;grind
 refine⟨⟨fr x,fr (Fd.num s),on⟩,mk_is gx' hy rfl rfl,?_⟩;show Sc.num s.data.toList=Gf.toN (fr (Fd.num s))+57896044618658097711785492504343953926634992332820282019728792003956564819968*(Gf.toN (fr x)%2)
 have ho:=Fd.xO gx';rw[←Fd.xr hy.1 hy.bd2,et,n1];rw[eo]at ho;rw[ho]at n2;by_cases c:Gf.toN (fr x)%2=1
 ·rw[if_pos (by rw[c];rfl)]at n2;omega
 ·rw[if_neg (by rw[beq_iff_eq];exact c)]at n2;omega
theorem of_both(s:ByteArray)(hs:s.size=32):(∃a p,ofB s=some a∧(Cv.of s.data.toList).2=true∧Is a p∧Cv.Is (Cv.of s.data.toList).1 p)∨(ofB s=none∧(Cv.of s.data.toList).2=false):=by
 have hl:s.data.toList.length=32:=by simpa using hs
 cases h:ofB s with
 |some a=>
  obtain⟨p,i,e⟩:=of_is hs h;obtain⟨f,j⟩:=Cv.of_found hl e;exact Or.inl ⟨a,p,rfl,f,i,j⟩
 |none=>
  right
  refine⟨rfl,?_⟩;cases c:(Cv.of s.data.toList).2 with
  |false=>rfl
  |true=>
   obtain⟨p,_,e⟩:=Cv.of_is c;obtain⟨a,ea,_⟩:=of_found hs e;rw[h]at ea;cases ea
theorem by_inv(a b:Nat)(h:(a*b)%Pr.P=1%Pr.P):Gf.inv (ofN a)=ofN b:=by
 have e:ofN a*ofN b=1:=by rw[←Gf.ofN_mul,←Gf.ofN_one,Gf.ofN_eq,h]
 have hne:ofN a≠0:=by
  intro e0;rw[e0]at e;apply Ed.one_ne Gf.S
  generalize ofN b=x at e;grind
 have hm:=Gf.mul_inv _ hne;exact Ed.cancel Gf.S hne (by rw[hm,e])
def fifth:Nat:=11579208923731619542357098500868790785326998466564056403945758400791312963990
theorem baseY_fr:fr xj=Gf.B.y:=by
 have e4:fr (small 4)=ofN 4:=Fd.wk 4;have e5:fr (small 5)=ofN 5:=Fd.wk 5;unfold xj;rw[Fd.uG,Fd.yi,e4,e5,by_inv 5 fifth (by decide+kernel),←Gf.ofN_mul];show _=ofN Gf.By
 rw[Gf.ofN_eq];decide+kernel
theorem zu:Is base Gf.B:=by
 have hs:(⟨(Fd.told xj).toArray⟩:ByteArray).size=32:=by
  show(Fd.told xj).toArray.size=32
  rw[List.size_toArray,Fd.us]
 obtain⟨a,ea,ia⟩:=of_found (s:=⟨(Fd.told xj).toArray⟩) hs (p:=Gf.B) (by
  show Sc.num (Fd.told xj)=_
  rw[Fd.xr baseY_good.1 baseY_good.bd2,baseY_fr];unfold enc;rw[show Gf.toN Gf.B.x%2=0 by decide+kernel];exact(Nat.add_zero _).symm)
 unfold base get;rw[ea];exact ia
theorem wG{s:ByteArray}(hs:s.size=32){p:Pn}{P:Gf.Pt}(h:Is p P):Is (tU s p) (Ed.mul Gf.S (Sc.num s.data.toList) P):=by
 have hl:s.data.toList.length=32:=by simpa using hs
 have hlt:=Sc.yJ s.data.toList;rw[hl]at hlt;have:=mulTo_is (f:=bitf s) h wm twice_fr (Sc.num s.data.toList) 256 hlt (fun i hi=>by
  rw[Sc.Am _ _ (by rw[hl];omega)];unfold bitf byt;generalize (s.data.toList.getD (i/8) 0).toNat=x;generalize i%8=r;have h:(x:Int)/2^r%2=((x/2^r%2:Nat):Int):=by simp
  rw[h,Bool.eq_iff_iff,beq_iff_eq,beq_iff_eq];omega) 256 (by omega)
 rw[Nat.sub_self,Nat.pow_zero,Nat.div_one]at this;exact this
theorem Is.neg{a:Pn}{p:Gf.Pt}(h:Is a p):Is ⟨minus (small 0) a.x,a.y,a.z,minus (small 0) a.t⟩ (Ed.neg Gf.S p):=by
 obtain⟨⟨g1,g2,g3,g4⟩,r,t⟩:=h;have n1:=Fd.tO (small 0) a.x wF g1;have n4:=Fd.tO (small 0) a.t wF g4;have e1:=neg_fr a.x;have e4:=neg_fr a.t;generalize minus (small 0) a.x=mx at n1 e1;generalize minus (small 0) a.t=mt at n4 e4;unfold Is;refine⟨Fine.of n1 g2 g3 n4,?_⟩;dsimp only;rw[e1,e4,t];exact⟨Ed.Rep.neg Gf.S r,negm p.x p.y (fr a.z)⟩
end Rp
end Go.Proofs.YtclpbaokadfhhaaGreatDoor
namespace Go.Proofs.YtclpbaokadfhhaaGreatDoor
namespace Rs
theorem len(s:ByteArray):s.data.toList.length=s.size:=by simp
theorem bytes_ext{a b:ByteArray}(h:a.data.toList=b.data.toList):a=b:=by
 cases a;cases b
 simp only[ByteArray.mk.injEq];exact Array.toList_inj.1 h
theorem lst(l:List UInt8):(⟨l.toArray⟩:ByteArray).data.toList=l:=rfl
theorem OfB_list(s:ByteArray):(Sha.OfB Sha.K s).data.toList=Sha.digest Sha.K s.data.toList:=by unfold Sha.OfB;exact lst _
theorem mk_of{a:ByteArray}{l:List UInt8}(h:a.data.toList=l):a=⟨l.toArray⟩:=by subst h;cases a;rfl
theorem D_list(s:ByteArray):(D s).data.toList=Sha.digest Sha.K s.data.toList:=by unfold D;exact OfB_list s
theorem app(a b:ByteArray):(a++b).data.toList=a.data.toList++b.data.toList:=by simp
theorem ext_list(s:ByteArray)(i j:Nat):(s.extract i j).data.toList=(s.data.toList.take j).drop i:=by
 simp[List.drop_take]
theorem secret_num(s:ByteArray):Sc.num (Rp.secret s).data.toList%Sc.Q=Sc.val (Sg.secret (Sha.digest Sha.K) s.data.toList):=by
 unfold Sg.secret;rw[(Sc.of_val _).2];have e:(Rp.secret s).data.toList=aE ((Sha.digest Sha.K s.data.toList).take 32):=by
  unfold Rp.secret;rw[lst,Rl.Af];unfold Rp.half;rw[ext_list,List.drop_zero,OfB_list]
 rw[e]
theorem b32_num{n:Nat}(h:n<Sc.Q):Sc.num (b32 n).data.toList=n:=by
 unfold b32;rw[lst,Cc.num_lo,Nat.mod_eq_of_lt (Nat.lt_trans h (by decide+kernel))]
theorem told_same{a:Rp.Pn}{b:Cv.Pn}{p q:Gf.Pt}(ha:Rp.Is a p)(hb:Cv.Is b q)(e:p=q):(⟨(Rp.bytes a).toArray⟩:ByteArray).data.toList=Cv.bytes b:=by
 subst e;rw[lst];exact ha.told hb
theorem ident_same(s:ByteArray):(Rp.uq s).data.toList=Sg.ui (Sha.digest Sha.K) s.data.toList:=by
 have h1:=Rp.wG (Rp.xI s) Rp.zu;have h2:=Cv.base_is.times (n:=Sg.secret (Sha.digest Sha.K) s.data.toList) (Sc.of_val _).1;unfold Rp.uq Sg.ui;refine told_same h1 h2 ?_;rw[←secret_num,Cv.mul_mod]
theorem once_same(s d:ByteArray):once s d=Sc.val (Sg.once (Sha.digest Sha.K) s.data.toList d.data.toList):=by
 unfold Sg.once once yW;rw[(Sc.of_val _).2,D_list,app];have e:(rest s).data.toList=Sg.rest (Sha.digest Sha.K) s.data.toList:=by
  unfold rest Sg.rest;rw[ext_list,List.take_of_length_le (by rw[len];exact Nat.le_of_eq (Sha.uh Sha.K s)),D_list]
 rw[e]
theorem once_lt(s d:ByteArray):once s d<Sc.Q:=Nat.mod_lt _ AM
theorem first_same(s d:ByteArray):(first s d).data.toList=Sg.first (Sha.digest Sha.K) s.data.toList d.data.toList:=by
 have h1:=Rp.wG (xT (once s d)) Rp.zu;have h2:=Cv.base_is.times (n:=Sg.once (Sha.digest Sha.K) s.data.toList d.data.toList) (Sc.of_val _).1;unfold first Sg.first;refine told_same h1 h2 ?_;rw[b32_num (once_lt s d),once_same]
theorem tie_same(f i d:ByteArray):tie f i d=Sc.val (Sg.tie (Sha.digest Sha.K) f.data.toList i.data.toList d.data.toList):=by
 unfold Sg.tie tie yW;rw[(Sc.of_val _).2,D_list,app,app]
theorem last_same(s d:ByteArray):last s d=Sc.val (Sg.last (Sha.digest Sha.K) s.data.toList d.data.toList):=by
 rw[(Sg.zG _ _ _).2,←secret_num,←first_same,←ident_same,←tie_same,←once_same];unfold last prod yW;rw[Nat.add_mod_mod,Nat.mul_comm,Nat.add_mod,Nat.mul_mod,←Nat.mul_mod (tie _ _ _),Nat.add_mod (once s d) (tie _ _ _*_),Nat.mul_mod_mod]
theorem last_lt(s d:ByteArray):last s d<Sc.Q:=Nat.mod_lt _ AM
theorem tie_lt(f i d:ByteArray):tie f i d<Sc.Q:=Nat.mod_lt _ AM
theorem sign_same(s d:ByteArray):(sign s d).data.toList=Sg.sign (Sha.digest Sha.K) s.data.toList d.data.toList:=by
 have hf:=(Sg.zG (Sha.digest Sha.K) s.data.toList d.data.toList).1;have h:(b32 (last s d)).data.toList=Sc.bytes (Sg.last (Sha.digest Sha.K) s.data.toList d.data.toList):=by
  refine Sc.wQ ?_ ?_
  ·rw[len,xT,Sc.bytes_length]
  ·rw[Sc.bytes_num _ hf.1,←last_same,b32_num (last_lt s d)]
 unfold sign Sg.sign;rw[app,first_same,h]
theorem low_same{l:List UInt8}(h:l.length=32):(Sc.bytes (Sc.of l)=l)↔Sc.num l<Sc.Q:=by
 constructor
 ·intro e;rcases Nat.lt_or_ge (Sc.num l) Sc.Q with c|c
  ·exact c
  ·exact absurd e (Sc.AL c)
 ·intro c;obtain⟨f,v⟩:=Sc.of_val l;refine Sc.wQ (by rw[Sc.bytes_length,h]) ?_;rw[Sc.bytes_num _ f.1,v,Nat.mod_eq_of_lt c]
theorem A9(i d g:ByteArray)(hi:i.size=32)(hg:g.size=64):right i d g=Sg.right (Sha.digest Sha.K) i.data.toList d.data.toList g.data.toList:=by
 have e1:(g.extract 0 32).data.toList=g.data.toList.take 32:=by rw[ext_list,List.drop_zero]
 have e2:(g.extract 32 64).data.toList=g.data.toList.drop 32:=by
  rw[ext_list,List.take_of_length_le (by rw[len];omega)]
 have hl:(g.data.toList.drop 32).length=32:=by rw[List.length_drop,len];omega
 have hs:(g.extract 32 64).size=32:=by rw[ByteArray.size_extract,hg];rfl
 unfold right Sg.right yW;rw[e2];rcases Rp.of_both i hi with ⟨a,p,ea,ec,ia,ic⟩|⟨en,ec⟩
 ·rw[ea,ec,if_pos rfl];by_cases c:Sc.num (g.data.toList.drop 32)<Sc.Q
  ·rw[if_pos ((low_same hl).2 c),decide_eq_true c];have hn:Sc.Fine (Sc.of (g.data.toList.drop 32)):=(Sc.of_val _).1;have ht:Sc.Fine (Sg.tie (Sha.digest Sha.K) (g.data.toList.take 32) i.data.toList d.data.toList):=(Sc.of_val _).1;have m1:=Rp.wG hs Rp.zu;have m2:=Rp.wG (xT (tie (g.extract 0 32) i d)) ia.neg;have m3:=m1.sum m2 Rp.wm Rp.twice_fr;have c1:=Cv.base_is.times hn;have c2:=(ic.times ht).neg;have c3:=c1.plus c2;have e:(want a i d g).data.toList=Sg.want (Sha.digest Sha.K) (Cv.of i.data.toList).1 i.data.toList d.data.toList (g.data.toList.take 32) (Sc.of (g.data.toList.drop 32)):=by
    unfold want Sg.want neg;refine told_same m3 c3 ?_;rw[Ed.mul_neg,b32_num (tie_lt _ _ _),tie_same,e1,e2,(Sc.of_val (g.data.toList.drop 32)).2,Cv.mul_mod]
   show(true&&true&&decide (want a i d g=g.extract 0 32))=_
   rw[Bool.and_self,Bool.true_and,Bool.eq_iff_iff,decide_eq_true_iff,decide_eq_true_iff,←e,←e1];exact⟨fun h=>by rw[h],fun h=>bytes_ext h⟩
  ·rw[if_neg (fun h=>c ((low_same hl).1 h)),decide_eq_false c];rfl
 ·rw[en,ec,if_neg (by decide)];show(_&&false&&_)=false
  rw[Bool.and_false,Bool.false_and]
theorem ident_eq(s:ByteArray):Rp.uq s=⟨(Sg.ui (Sha.digest Sha.K) s.data.toList).toArray⟩:=mk_of (ident_same s)
theorem sign_eq(s d:ByteArray):sign s d=⟨(Sg.sign (Sha.digest Sha.K) s.data.toList d.data.toList).toArray⟩:=mk_of (sign_same s d)
end Rs
open Go.RowKit
theorem dn(s:ByteArray)(w:World)(hs:s.size≤140737488351232)(b:Bool)(hb:decide (¬(s.size=32))=b):
  Hid (Calls Tryz.prog 24 #[.slice (some ⟨w.heap.size,0,none⟩) 1 1] (w.alloc (.cells (Ss [s]) 9)) fun e w'=>e= .returned (.bool b)∧w'=w.alloc (.cells (Ss [s]) 9)):=by
 have HT:=bJ s w hs;rw[hb]at HT;exact HT
theorem iS(s d:ByteArray)(w:World)(hd:d.size≤140737488351232)(b:Bool)(hb:decide (12000<d.size)=b):
  Hid (Calls Tryz.prog 27 #[.int .i64 12000,.slice (some ⟨w.heap.size+1,0,none⟩) 1 1] ((w.alloc (.cells (Ss [s]) 9)).alloc (.cells (Ss [d]) 9)) fun e w'=>e= .returned (.bool b)∧w'=(w.alloc (.cells (Ss [s]) 9)).alloc (.cells (Ss [d]) 9)):=by
 have HL:=dZ d 12000 (w.alloc (.cells (Ss [s]) 9)) (by omega) hd;rw[hb,show (w.alloc (.cells (Ss [s]) 9)).heap.size=w.heap.size+1 by simp]at HL;exact HL
theorem mL(s:ByteArray)(w:World)(hs:s.size≤140737488351232)(hK:Tab Sha.K w):
  Rw 13 #[.string s] w (.tuple #[.string (Rp.idR s).1,.int .i64 (Rp.idR s).2]):=by
 by_cases h:s.size=32
 ·have e1:Rp.idR s=(⟨(Sg.ui (Sha.digest Sha.K) s.data.toList).toArray⟩,0):=by unfold Rp.idR;rw[if_pos h,Rs.ident_eq]
  rw[e1];exact kj Sha.K s w h hK
 ·have e1:Rp.idR s=(⟨#[]⟩,1):=by unfold Rp.idR;rw[if_neg h]
  rw[e1];have BI:Below w.heap.size w (w.alloc (.cells (Ss [s]) 9)):=bR.alloc nR _;have HT:=dn s w hs true (decide_eq_true h);clear e1 h hK;go_enter Tryz.func13,Tryz.ntmps13;go_wp2_with fail;refine HT.out.mono ?_;rintro e w' ⟨rfl,rfl⟩;go_wp2;go_ret2;exact⟨rfl,BI⟩
theorem ss(s d:ByteArray)(w:World)(hs:s.size≤140737488351232)(hd:d.size≤140737488351232)(hK:Tab Sha.K w):
  Rw 99 #[.string s,.string d] w (.tuple #[.string (Rs.uI s d).1,.int .i64 (Rs.uI s d).2]):=by
 have BR:Below w.heap.size w (w.alloc (.cells (Ss [s]) 9)):=bR.alloc nR _;by_cases h:s.size=32
 ·have HT:=dn s w hs false (decide_eq_false (not_not_intro h));by_cases h2:d.size≤12000
  ·have e1:Rs.uI s d=(⟨(Sg.sign (Sha.digest Sha.K) s.data.toList d.data.toList).toArray⟩,0):=by unfold Rs.uI;rw[if_pos ⟨h,h2⟩,Rs.sign_eq]
   rw[e1];exact pf Sha.K s d w h h2 hK
  ·have e1:Rs.uI s d=(⟨#[]⟩,1):=by unfold Rs.uI;rw[if_neg (fun hh=>h2 hh.2)]
   rw[e1];have BI:Below w.heap.size w ((w.alloc (.cells (Ss [s]) 9)).alloc (.cells (Ss [d]) 9)):=BR.alloc (by simp) _;have HL:=iS s d w hd true (decide_eq_true (by omega));clear e1 h hK BR h2;go_enter Tryz.func99,Tryz.ntmps99;go_wp2_with fail;refine HT.out.mono ?_;rintro e w' ⟨rfl,rfl⟩;go_wp2_with fail;refine HL.out.mono ?_;rintro e w' ⟨rfl,rfl⟩;go_wp2;go_ret2;exact⟨rfl,BI⟩
 ·have e1:Rs.uI s d=(⟨#[]⟩,1):=by unfold Rs.uI;rw[if_neg (fun hh=>h hh.1)]
  rw[e1];have HT:=dn s w hs true (decide_eq_true h);clear e1 h hK;go_enter Tryz.func99,Tryz.ntmps99;go_wp2_with fail;refine HT.out.mono ?_;rintro e w' ⟨rfl,rfl⟩;go_wp2;go_ret2;exact⟨rfl,BR⟩
theorem pq(i d g:ByteArray)(w:World)(hi:i.size≤140737488351232)(hd:d.size≤140737488351232)(hK:Tab Sha.K w):
  Rw 101 #[.string i,.string d,.string g] w (.bool (Rs.uO i d g)):=by
 have BR:Below w.heap.size w (w.alloc (.cells (Ss [i]) 9)):=bR.alloc nR _;by_cases h:i.size=32
 ·have HT:=dn i w hi false (decide_eq_false (not_not_intro h));by_cases h2:d.size≤12000
  ·have e1:Rs.uO i d g=if g.size=64 then Sg.right (Sha.digest Sha.K) i.data.toList d.data.toList g.data.toList else false:=by
    unfold Rs.uO;by_cases h3:g.size=64
    ·rw[if_pos ⟨h,h2,h3⟩,if_pos h3,Rs.A9 i d g h h3]
    ·rw[if_neg (fun hh=>h3 hh.2.2),if_neg h3]
   rw[e1];exact mD Sha.K i d g w h h2 hK
  ·have e1:Rs.uO i d g=false:=by unfold Rs.uO;rw[if_neg (fun hh=>h2 hh.2.1)]
   rw[e1];have BI:Below w.heap.size w ((w.alloc (.cells (Ss [i]) 9)).alloc (.cells (Ss [d]) 9)):=BR.alloc (by simp) _;have HL:=iS i d w hd true (decide_eq_true (by omega));clear e1 h hK BR h2;go_enter Tryz.func101,Tryz.ntmps101;go_wp2_with fail;refine HT.out.mono ?_;rintro e w' ⟨rfl,rfl⟩;go_wp2_with fail;refine HL.out.mono ?_;rintro e w' ⟨rfl,rfl⟩;go_wp2;go_ret;exact⟨rfl,BI⟩
 ·have e1:Rs.uO i d g=false:=by unfold Rs.uO;rw[if_neg (fun hh=>h hh.1)]
  rw[e1];have HT:=dn i w hi true (decide_eq_true h);clear e1 h hK;go_enter Tryz.func101,Tryz.ntmps101;go_wp2_with fail;refine HT.out.mono ?_;rintro e w' ⟨rfl,rfl⟩;go_wp2;go_ret;exact⟨rfl,BR⟩
end Go.Proofs.YtclpbaokadfhhaaGreatDoor
