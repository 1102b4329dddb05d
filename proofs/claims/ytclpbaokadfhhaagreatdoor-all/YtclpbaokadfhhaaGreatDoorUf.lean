import Derived.Test.YtclpbaokadfhhaaGreatDoorXl
import Derived.Test.YtclpbaokadfhhaaGreatDoorZm
set_option maxRecDepth 100000
set_option maxHeartbeats 2000000
open Go.Value renaming string->Qa,int->Qc,slice->Qd,pointer->Qe,tuple->Qf,bool->Qg
open List renaming replicate->Qi,getElem?_eq_none->Qj,ext_getElem?->Qk
open Go renaming World->Qm,Value->Qn,Calls->Qo,below_drewN->Qp
open Go.Proofs.Tryz renaming prog->Qq
open Go.IntKind renaming i64->Qt,wrap_i64->Qx
open Go.Instr renaming makeSlice->Qy
open Go.Ending renaming returned->Qz
open Go.Obj renaming cells->QA
open UInt8 renaming ofNat->QB
namespace Go.Proofs.YtclpbaokadfhhaaGreatDoor
open Go.RowKit
theorem wP(x:Int)(w:Qm):
  Qo Qq 128 #[Qg true,Qc Qt x] w λe w'=>e=Qz (Qf #[])/\w'=w:=by
 go_enter Tryz.func128,Tryz.ntmps128;go_wp2;go_end0
 exact⟨rfl,rfl⟩
theorem But.drewN{q:Nat}{a w:Qm}(h:But q a w)(n:Nat):But q a (w.drewN n):=⟨Qp h.below n,h.other⟩
def Rd(w:Qm)(q:Nat)(L:ByteArray)(k:Nat):Prop:=Blk w q #[Qa L,Qc Qt (k:Int)] 138
theorem Rd.at{w:Qm}{q k:Nat}{L:Qb}(h:Rd w q L k):w.cell? ⟨q,0,none⟩=some (Qa L)/\w.cell? ⟨q,1,none⟩=some (Qc Qt (k:Int)):=⟨Blk.cell h 0,Blk.cell h 1⟩
theorem rA(q k n:Nat)(L:Qb)(w:Qm)(h:Rd w q L k)(u:k+n<=L.size)(t:L.size<=1000000):
  Qo Qq 129 #[Qe (some ⟨q,0,none⟩),Qc Qt (n:Int)] w λe w'=>e=Qz (Qa (L.extract k (k+n)))/\Rd w' q L (k+n)/\But q w w':=by
 obtain⟨c,d⟩:=h.at;have f:=Qh λp=>wP 5 p
 have j:decide ((n:Int)<=(L.size:Int)-(k:Int))=true:=decide_eq_true oo;have o:Qt.wrap ((L.size:Int)-(k:Int))=(L.size:Int)-(k:Int):=by rw[Qx];omega
 have x:Qt.wrap ((k:Int)+(n:Int))=(k:Int)+(n:Int):=by rw[Qx];omega
 go_enter Tryz.func129,Tryz.ntmps129;go_wp2_with fail;have a:Rd w.drew q L k:=Blk.drew h;have b:=(But.refl q w).drew;go_region_with (first|(go_at_call 128;refine(f.out _).mono ?_;rintro e w' ⟨rfl,rfl⟩))
 all_goals
  clear c d f j o;generalize w.drew=i at a b|-;obtain⟨c,d⟩:=a.at;have m:=Blk.frozen a 1;have h2:Rd (i.setCell ⟨q,1,none⟩ (Qc Qt ((k:Int)+(n:Int)))) q L (k+n):=Blk.setAt a 1 _ (by rw[Int.natCast_add];rfl);replace b:=b.set 1 (Qc Qt ((k:Int)+(n:Int)));obtain⟨l,g⟩:=h2.at;rw[Int.natCast_add]at g;have r:(k:Int)<=(k:Int)+(n:Int):=oo
  have s:(k:Int)+(n:Int)<=(L.size:Int):=oo
  have v:((k:Int)+(n:Int)).toNat=k+n:=oo
  go_wp2_with fail;clear c d m a;generalize i.setCell ⟨q,1,none⟩ (Qc Qt ((k:Int)+(n:Int)))=y at h2 b l g|-;go_quiet (fail)
  go_wp2;go_ret;exact⟨rfl,h2,b.drewN _⟩
theorem SN(q k:Nat)(L:Qb)(w:Qm)(h:Rd w q L k)(f:k<=L.size)(_:L.size<=1000000):
  Rw 132 #[Qe (some ⟨q,0,none⟩)] w (Qa (L.extract 0 k)):=by
 obtain⟨b,c⟩:=h.at;have d:(0:Int)<=(k:Int):=oo
 have e:(k:Int)<=(L.size:Int):=oo
 have g:(k:Int).toNat=k:=oo
 have a:∀m,Below w.heap.size w (w.drewN m):=λm=>Qp bR m
 go_enter Tryz.func132,Tryz.ntmps132;go_wp2_with fail;go_quiet (fail)
 go_wp2;go_ret;exact⟨rfl,by first|exact Below.refl _ _|exact a _⟩
theorem aaj(q k m:Nat)(L:Qb)(f:Nat->UInt8)(w:Qm)(h:Rd w q L k)(o:k+4<=L.size)(u:L.size<=1000000)
  (d:∀i,i<4->(L.extract k (k+4)).data.toList.getD i 0=f i) (c:V (iu f 4)=(m:Int)) (I:m<=10000):
  Qo Qq 131 #[Qe (some ⟨q,0,none⟩)] w λe w'=>e=Qz (Qc Qt (m:Int))/\Rd w' q L (k+4)/\But q w w':=by
 have a:=rA q k 4 L w h o u;have b:(L.extract k (k+4)).size=4:=by rw[ByteArray.size_extract];omega
 replace c:=Qh c;generalize L.extract k (k+4)=B at a d b;replace a:Hid (Qo Qq 129 #[Qe (some ⟨q,0,none⟩),Qc Qt 4] w λe w'=>e=Qz (Qa B)/\Rd w' q L (k+4)/\But q w w'):=a;have r:=Qh λE=>wP 5 E
 clear o;replace b:=Qh b;go_enter Tryz.func131,Tryz.ntmps131;go_wp2_with fail;refine a.out.mono ?_;rintro e p ⟨rfl,n,v⟩;obtain⟨cap,D,A,g,l⟩:=bytesOf B p.heap.size p nR;replace g:=g.at;rw[b.out]at A;have H:B.data.toList.length=4:=by rw[<-b.out];simp
 have t:Rd D q L (k+4):=Blk.keep n l;have y:=v.keep l (Nat.le_of_lt (Blk.lt n));clear a h;go_wp2_with fail;go_loop [3,10] (λx i=> ∃j:Nat,j<=4/\i=Qc Qt j/\x=Qc .u32 (V (iu f j))) (λ_ i=>4-(intOf i).toNat)
 case atStart=>exact⟨0,Nat.zero_le _,rfl,rfl⟩
 case round=>
  obtain⟨j,G,rfl,rfl⟩:=hrel;by_cases C:j<4
  .have z:=g.cell j oo;rw[d j C]at z;clear d;have s:=Qh (wG (iu f j) (f j) j);go_wp2_with fail;go_round
   case rel=>exact⟨j+1,oo,gn,cH s.out⟩
   case measure=>simp[intOf];omega
  .have:j=4:=oo
   subst this;rw[c.out];have F:(m:Int)<=10000:=oo
   go_wp2_with fail;refine(r.out _).mono ?_;rintro e w' ⟨rfl,rfl⟩;go_wp2;go_ret;exact⟨rfl,t,y⟩
theorem But.setNew{q b:Nat}{a w:Qm}(h:But q a w)(f:q<a.heap.size)(e:a.heap.size<=b)(i:Nat)(v:Qn):But q a (w.setCell ⟨b,i,none⟩ v):=
 ⟨h.below.setCell (p:=⟨b,i,none⟩) (by show q<=b;omega) _,λj c d=>by
  rw[<-h.other j c d];exact((Below.refl b w).setCell (p:=⟨b,i,none⟩) nR v).block j oo⟩
theorem Oh(l:List ByteArray)(i:Nat)(x:Qb):(Ss l).setIfInBounds i (Qa x)=Ss (l.set i x):=by
 unfold Ss;rw[List.setIfInBounds_toArray,List.map_set]
def jR(L:ByteArray)(k i:Nat):ByteArray:=L.extract (k+48*i) (k+48*i+48)
def ij(L:ByteArray)(k n j:Nat):List ByteArray:=(List.range n).map λi=>if i<j then jR L k i else⟨#[]⟩
theorem kM(L:Qb)(k n j:Nat):(ij L k n j).length=n:=by unfold ij;rw[List.length_map,List.length_range]
theorem Ao(L:Qb)(k n j i:Nat)(h:i<n):(ij L k n j)[i]? =some (if i<j then jR L k i else⟨#[]⟩):=by
 unfold ij;rw[List.getElem?_map,List.getElem?_range h];rfl
theorem Gp(L:Qb)(k n:Nat):ij L k n 0=Qi n ⟨#[]⟩:=by
 apply Qk
 intro i;by_cases h:i<n
 .rw[Ao _ _ _ _ _ h,List.getElem?_replicate,if_pos h,if_neg oo]
 .rw[Qj (by rw[kM];omega),Qj (by rw[List.length_replicate];omega)]
theorem Kc(L:Qb)(k n j:Nat)(h:j<n):(ij L k n j).set j (jR L k j)=ij L k n (j+1):=by
 apply Qk
 intro i;by_cases a:i<n
 .rw[Ao _ _ _ _ _ a];by_cases e:j=i
  .subst e;rw[List.getElem?_set_self (by rw[kM];exact h),if_pos oo]
  .rw[List.getElem?_set_ne e,Ao _ _ _ _ _ a];by_cases c:i<j
   .rw[if_pos c,if_pos oo]
   .rw[if_neg c,if_neg oo]
 .rw[Qj (by rw[List.length_set,kM];omega),Qj (by rw[kM];omega)]
theorem adi(w:Qm):(Qy 25 (Qc Qt 1) (Qc Qt 1)).run Qq w=.ok (Qd (some ⟨w.heap.size,0,none⟩) 1 1) (w.alloc (QA (Ss (Qi 1 ⟨#[]⟩)) 9)):=kr
theorem adh(w:Qm):(Qy 25 (Qc Qt 2) (Qc Qt 2)).run Qq w=.ok (Qd (some ⟨w.heap.size,0,none⟩) 2 2) (w.alloc (QA (Ss (Qi 2 ⟨#[]⟩)) 9)):=kr
theorem adg(w:Qm):(Qy 25 (Qc Qt 3) (Qc Qt 3)).run Qq w=.ok (Qd (some ⟨w.heap.size,0,none⟩) 3 3) (w.alloc (QA (Ss (Qi 3 ⟨#[]⟩)) 9)):=kr
theorem adf(w:Qm):(Qy 25 (Qc Qt 4) (Qc Qt 4)).run Qq w=.ok (Qd (some ⟨w.heap.size,0,none⟩) 4 4) (w.alloc (QA (Ss (Qi 4 ⟨#[]⟩)) 9)):=kr
theorem ade(w:Qm):(Qy 25 (Qc Qt 5) (Qc Qt 5)).run Qq w=.ok (Qd (some ⟨w.heap.size,0,none⟩) 5 5) (w.alloc (QA (Ss (Qi 5 ⟨#[]⟩)) 9)):=kr
theorem adc(w:Qm):(Qy 25 (Qc Qt 6) (Qc Qt 6)).run Qq w=.ok (Qd (some ⟨w.heap.size,0,none⟩) 6 6) (w.alloc (QA (Ss (Qi 6 ⟨#[]⟩)) 9)):=kr
theorem adb(w:Qm):(Qy 25 (Qc Qt 7) (Qc Qt 7)).run Qq w=.ok (Qd (some ⟨w.heap.size,0,none⟩) 7 7) (w.alloc (QA (Ss (Qi 7 ⟨#[]⟩)) 9)):=kr
theorem ada(w:Qm):(Qy 25 (Qc Qt 8) (Qc Qt 8)).run Qq w=.ok (Qd (some ⟨w.heap.size,0,none⟩) 8 8) (w.alloc (QA (Ss (Qi 8 ⟨#[]⟩)) 9)):=kr
theorem mkS(n:Nat)(a:1<=n)(h:n<=8)(w:Qm):(Qy 25 (Qc Qt (n:Int)) (Qc Qt (n:Int))).run Qq w=.ok (Qd (some ⟨w.heap.size,0,none⟩) n n) (w.alloc (QA (Ss (Qi n ⟨#[]⟩)) 9)):=by
 have:n=1\/n=2\/n=3\/n=4\/n=5\/n=6\/n=7\/n=8:=oo
 rcases this with rfl|rfl|rfl|rfl|rfl|rfl|rfl|rfl
 .exact adi w
 .exact adh w
 .exact adg w
 .exact adf w
 .exact ade w
 .exact adc w
 .exact adb w
 .exact ada w
theorem X7(q k n:Nat)(L:Qb)(w:Qm)(h:Rd w q L k)(O:1<=n)(P:n<=8)(E:L.size<=1000000)(hn:k+1+48*n<=L.size)(s:(L.extract k (k+1)).data.toList.getD 0 0=QB n):
  Qo Qq 130 #[Qe (some ⟨q,0,none⟩)] w λe w'=> ∃b:Nat,e=Qz (Qd (some ⟨b,0,none⟩) n n)/\w.heap.size<=b/\Blk w' b (Ss (ij L (k+1) n n)) 9/\Rd w' q L (k+1+48*n)/\But q w w':=by
 have r:Hid (Qo Qq 129 #[Qe (some ⟨q,0,none⟩),Qc Qt 1] w λe w'=>e=Qz (Qa (L.extract k (k+1)))/\Rd w' q L (k+1)/\But q w w'):=rA q k 1 L w h oo E;have H:(L.extract k (k+1)).size=1:=by rw[ByteArray.size_extract];omega
 generalize L.extract k (k+1)=B at r H s;have u:=gh B 0 oo;rw[s]at u;clear s;have y:=Qh λZ=>wP 5 Z
 have I:((QB n).toNat:Int)=(n:Int):=by rw[show (QB n).toNat=n by simp;omega]
 generalize QB n=x at u I;have d1:(n:Int)>=1:=oo
 have d2:(n:Int)<=8:=oo
 have wn:Qt.wrap (n:Int)=(n:Int):=by rw[Qx];omega
 have X:=Blk.lt h;go_enter Tryz.func130,Tryz.ntmps130;go_wp2_with fail;refine r.out.mono ?_;rintro e w1 ⟨rfl,d,f⟩;have F:=f;clear r;go_wp2_with fail;try rw[I]
 refine(y.out _).mono ?_;rintro e l ⟨rfl,rfl⟩;have T:=mkS n O P l;clear y u H;go_wp2_with fail;clear T;have g:=Blk.new l (Ss (Qi n ⟨#[]⟩)) 9;rw[<-Gp L (k+1) n]at g|-;replace f:=f.alloc (Nat.le_of_lt (Blk.lt d)) (QA (Ss (ij L (k+1) n 0)) 9);replace d:Rd (l.alloc (QA (Ss (ij L (k+1) n 0)) 9)) q L (k+1):=Blk.alloc d _;have C:=F.below.size;generalize l.alloc (QA (Ss (ij L (k+1) n 0)) 9)=v at g f d|-;generalize l.heap.size=b at g C|-;have D:Hid (Blk v b (Ss (ij L (k+1) n 0)) 9/\Rd v q L (k+1+48*0)/\But q w v):=⟨g,d,f⟩;clear g d f h F;have c:q<w.heap.size/\w.heap.size<=b:=⟨X,C⟩;replace c:=Qh c;go_loopw [21] (λi wr=> ∃j:Nat,i=Qc Qt j/\j<=n/\Hid (Blk wr b (Ss (ij L (k+1) n j)) 9/\Rd wr q L (k+1+48*j)/\But q w wr)) (λi _=>n-(intOf i).toNat)
 case atStart=>exact⟨0,rfl,oo,D⟩
 case round=>
  clear D;obtain⟨j,rfl,hj,a⟩:=hrel;by_cases G:j<n
  .have N:(j:Int)<(n:Int):=oo
   have z:Hid (Qo Qq 129 #[Qe (some ⟨q,0,none⟩),Qc Qt 48] wr λe w'=>e=Qz (Qa (jR L (k+1) j))/\Rd w' q L (k+1+48*(j+1))/\But q wr w'):=rA q (k+1+48*j) 48 L wr a.out.2.1 oo E;go_wp2_with fail;refine z.out.mono ?_;rintro e m ⟨rfl,A,t⟩;have W:b≠q:=by have:=c.out;omega
   have o:=t.blk a.out.1 W;have R:=o.cell j;rw[xw _ _ (by rw[kM];exact G)]at R;have hf:=o.frozen j;have J:=o.setAt j _ (by rw[Oh,Kc _ _ _ _ G]);have K:Rd (m.setCell ⟨b,j,none⟩ (Qa (jR L (k+1) j))) q L (k+1+48*(j+1)):=Blk.below A ((Below.refl b m).setCell (p:=⟨b,j,none⟩) nR _) (by have:=c.out;omega);have M:=(a.out.2.2.trans t).setNew c.out.1 c.out.2 j (Qa (jR L (k+1) j));have Q:Hid (Blk (m.setCell ⟨b,j,none⟩ (Qa (jR L (k+1) j))) b (Ss (ij L (k+1) n (j+1))) 9/\Rd (m.setCell ⟨b,j,none⟩ (Qa (jR L (k+1) j))) q L (k+1+48*(j+1))/\But q w (m.setCell ⟨b,j,none⟩ (Qa (jR L (k+1) j)))):=⟨J,K,M⟩;clear a z A t o J K M;go_wp2_with fail;go_roundw
   case rel=>exact⟨j+1,gn,oo,Q⟩
   case measure=>simp[intOf];omega
  .have S:j=n:=oo
   subst S;have N:decide ((j:Int)<(j:Int))=false:=decide_eq_false oo;go_wp2;go_ret;exact⟨b,rfl,c.out.2,a.out.1,a.out.2.1,a.out.2.2⟩
theorem Tryz.info84:(Qq.info? 84).map (·.size)=some 7:=kr
theorem t84:Ty 84 7:=⟨_,Tryz.underlying84,rfl,Tryz.info84⟩
def Ny:Array Qn:=#[Qa ⟨#[]⟩,Qd none 0 0,Qa ⟨#[]⟩,Qa ⟨#[]⟩,Qa ⟨#[]⟩,Qa ⟨#[]⟩,Qa ⟨#[]⟩]
theorem UW(w:Qm):Sem.run Qq (zeroValue 84) w=.ok (.agg Ny) w:=kr
def prt(p:ByteArray)(s:Qn)(a b c d e:ByteArray):Array Qn:=#[Qa p,s,Qa a,Qa b,Qa c,Qa d,Qa e]
def PI(w:Qm)(q pb:Nat)(L:ByteArray)(k:Nat)(cs:Array Qn)(O:List (Nat×Array Qn×Nat))(wr:Qm):Prop:=
 Rd wr q L k/\Blk wr pb cs 84/\(∀x∈O,Blk wr x.1 x.2.1 x.2.2/\x.1≠q/\x.1≠pb)/\Below w.heap.size w wr/\w.heap.size<=q/\q≠pb/\w.heap.size<=pb
theorem PI.next{w:Qm}{q e:Nat}{L:Qb}{k d:Nat}{c:Array Qn}{O:List (Nat×Array Qn×Nat)}{wr w':Qm}(h:PI w q e L k c O wr)(f:Rd w' q L d)(a:But q wr w'):PI w q e L d c O w':=
 ⟨f,a.blk h.2.1 (Ne.symm h.2.2.2.2.2.1),λx b=>⟨a.blk (h.2.2.1 x b).1 (h.2.2.1 x b).2.1,(h.2.2.1 x b).2⟩,h.2.2.2.1.trans (a.below.mono h.2.2.2.2.1),h.2.2.2.2⟩
theorem PI.keep{w:Qm}{q d:Nat}{L:Qb}{k:Nat}{b:Array Qn}{O:List (Nat×Array Qn×Nat)}{wr w':Qm}(h:PI w q d L k b O wr)(a:Below wr.heap.size wr w'):PI w q d L k b O w':=
 ⟨Blk.keep h.1 a,h.2.1.keep a,λx c=>⟨(h.2.2.1 x c).1.keep a,(h.2.2.1 x c).2⟩,h.2.2.2.1.trans (a.mono h.2.2.2.1.size),h.2.2.2.2⟩
theorem PI.set{w:Qm}{q a:Nat}{L:Qb}{k:Nat}{f cs':Array Qn}{O:List (Nat×Array Qn×Nat)}{wr:Qm}(h:PI w q a L k f O wr)(i:Nat)(v:Qn)(e:f.setIfInBounds i v=cs'):PI w q a L k cs' O (wr.setCell ⟨a,i,none⟩ v):=by
 have l:=Below.heap_setCell wr ⟨a,i,none⟩ v;have j:∀{b t:Nat} {c:Array Qn},Blk wr b c t->b≠a->Blk (wr.setCell ⟨a,i,none⟩ v) b c t:=λg m=>by
  unfold Blk at g|-;rw[l _ m];exact g
 exact⟨j h.1 h.2.2.2.2.2.1,h.2.1.setAt i v e,λx d=>⟨j (h.2.2.1 x d).1 (h.2.2.1 x d).2.2,(h.2.2.1 x d).2⟩,h.2.2.2.1.setCell (p:=⟨a,i,none⟩) h.2.2.2.2.2.2 _,h.2.2.2.2⟩
theorem PI.add{w:Qm}{q b:Nat}{L:Qb}{k:Nat}{c:Array Qn}{O:List (Nat×Array Qn×Nat)}{wr:Qm}(h:PI w q b L k c O wr)(x:Nat×Array Qn×Nat)(e:Blk wr x.1 x.2.1 x.2.2)(d:x.1≠q)(h2:x.1≠b):PI w q b L k c (x::O) wr:=
 ⟨h.1,h.2.1,(λy a=>by
  rcases List.mem_cons.1 a with rfl|a
  .exact⟨e,d,h2⟩
  .exact h.2.2.1 y a),h.2.2.2⟩
theorem PI.cast{w:Qm}{q b:Nat}{L:Qb}{k:Nat}{a cs':Array Qn}{O:List (Nat×Array Qn×Nat)}{wr:Qm}(h:PI w q b L k a O wr)(e:a=cs'):PI w q b L k cs' O wr:=e▸h
theorem Sv(p:Qb)(b n:Nat)(a c d e f:Qb):(prt p (Qd (some ⟨b,0,none⟩) n n) a c d e f).all (·.oneCell')=true:=by simp[prt,Value.oneCell']
end Go.Proofs.YtclpbaokadfhhaaGreatDoor
