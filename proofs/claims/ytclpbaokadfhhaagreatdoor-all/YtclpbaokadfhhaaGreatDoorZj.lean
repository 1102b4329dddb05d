import Derived.Test.YtclpbaokadfhhaaGreatDoorRp6
import Derived.Test.YtclpbaokadfhhaaGreatDoorZx
set_option maxRecDepth 100000
set_option maxHeartbeats 4000000
open Go.Proofs.YtclpbaokadfhhaaGreatDoor renaming Fd_Good->Qa,Rp_Fine->Qc,Rp_Pn->Qd,Fd_none16->Qe,Rp_Z64->Qf
open Go.Value renaming string->Qg,agg->Qi,tuple->Qj,bool->Qk
namespace Go.Proofs.YtclpbaokadfhhaaGreatDoor
open Go.RowKit
def KW:Qd:=⟨Qe,Qe,Qe,Qe⟩
theorem Rk:bc KW=Qf:=dd
theorem tt:Qa Qe:=⟨rfl,λi=>by have:=pE 16 i;unfold Qe;rw[this];omega⟩
theorem Oz:Qc KW:=⟨tt,tt,tt,tt⟩
theorem Rp_Fine.of{x y z t:List Int}(a:Qa x)(b:Qa y)(c:Qa z)(ht:Qa t):Qc ⟨x,y,z,t⟩:=⟨a,b,c,ht⟩
def re(o1 o2 bt:Bool)(a b:Qd):Option Qd:=if o1=bt then some a else if o2=bt then some b else none
theorem MF{f g c:Bool}{a b p:Qd}(d:Qc a)(e:Qc b)(h:re f g c a b=some p):Qc p:=by
 unfold re at h;split at h
 .injection h with h;subst h;exact d
 .split at h
  .injection h with h;subst h;exact e
  .cases h
def rH(x y:List Int)(bt:Bool):Option Qd:=
 re (kI x) (kI (au (am 0) x)) bt ⟨x,y,am 1,af x y⟩ ⟨au (am 0) x,y,am 1,af (au (am 0) x) y⟩
def tY(s:ByteArray):List UInt8:=s.data.toList.set 31 (s.data.toList.getD 31 0%128)
def qs(s:ByteArray):Bool:=decide ((128:Int)<=((s.data.toList.getD 31 0).toNat:Int))
def om(y:List Int):List Int:=af (au (af y y) (am 1)) (fh (aJ (af fA (af y y)) (am 1)))
def jP(y:List Int):List Int:=oA (om y) (gr [0] 252)
def jI(y:List Int):List Int:=af (jP y) (oA (am 2) (gr [0,1,1] 253))
def cW(s:ByteArray):Option Qd:=
 if bF (aG s)=tY s then
  if rW (af (jP (aG s)) (jP (aG s))) (om (aG s))=true then rH (jP (aG s)) (aG s) (qs s)
  else if rW (af (jI (aG s)) (jI (aG s))) (om (aG s))=true then rH (jI (aG s)) (aG s) (qs s)else none
 else none
def jQ(o:Option Qd):Qd:=o.getD KW
def tW(o:Option Qd):Value:=Qj #[Qi (Ns (bc (jQ o))),Qk o.isSome]
theorem LV(x y z t:List Int):tW (some ⟨x,y,z,t⟩)=Qj #[Qi (Ns (bm x y z t)),Qk true]:=rfl
theorem AU:tW none=Qj #[Qi (Ns Qf),Qk false]:=by rw[<-Rk];rfl
theorem Oy(b c a:Bool)(x y z t e f g d:List Int):(b=a->tW (re b c a ⟨x,y,z,t⟩ ⟨e,f,g,d⟩)=Qj #[Qi (Ns (bm x y z t)),Qk true])/\(¬b=a->c=a->tW (re b c a ⟨x,y,z,t⟩ ⟨e,f,g,d⟩)=Qj #[Qi (Ns (bm e f g d)),Qk true])/\(¬b=a-> ¬c=a->tW (re b c a ⟨x,y,z,t⟩ ⟨e,f,g,d⟩)=Qj #[Qi (Ns Qf),Qk false]):=by
 unfold re;refine⟨λh=>?_,λh h2=>?_,λh h2=>?_⟩
 .rw[if_pos h];exact LV _ _ _ _
 .rw[if_neg h,if_pos h2];exact LV _ _ _ _
 .rw[if_neg h,if_neg h2];exact AU
theorem xC(y:List Int)(a:Qa y):Qa (om y):=by
 have b:=aA _ _ a a;exact aA _ _ (bl _ _ b lm) (j8 _ (cD _ _ (aA _ _ fe b) lm))
theorem tX(y:List Int)(a:Qa y):Qa (jP y):=xK _ _ (xC y a)
theorem zu:Qa (am 2):=oa 2 oo oo
theorem vQ(y:List Int)(a:Qa y):Qa (jI y):=aA _ _ (tX y a) (xK _ _ zu)
theorem Gf(x y:List Int)(d:Bool)(b:Qa x)(a:Qa y)(p:Qd)(h:rH x y d=some p):Qc p:=by
 have c:=bl _ _ f8 b;exact MF (Rp_Fine.of b a lm (aA _ _ b a)) (Rp_Fine.of c a lm (aA _ _ c a)) h
theorem xD(s:Qb):Qa (aG s):=(A8 s).good
theorem Rl{a b c:Prop} [Decidable a] [Decidable b] [Decidable c]{u v:Option Qd}{p:Qd}(d:u=some p->Qc p)(e:v=some p->Qc p)(h:(if a then if b then u else if c then v else none else none)=some p):Qc p:=by
 split at h
 .split at h
  .exact d h
  .split at h
   .exact e h
   .cases h
 .cases h
theorem Rj(s:Qb)(p:Qd)(h:cW s=some p):Qc p:=by
 have a:=xD s;exact Rl (Gf _ _ _ (tX _ a) a p) (Gf _ _ _ (vQ _ a) a p) h
theorem Ge(s:Qb):Qc (jQ (cW s)):=by
 unfold jQ;cases h:cW s with
 |none=>exact Oz
 |some p=>exact Rj s p h
theorem L9(s:Qb)(o:s.size=32)(w:World):
  Rw 86 #[Qg s] w (tW (cW s)):=by
 have b:=xD s;have i:=aA _ _ b b;have n:=bl _ _ i lm;have m:=aA _ _ fe i;have gv:=cD _ _ m lm;have p:=j8 _ gv;have k:=xC _ b;have c:=tX _ b;have d:=vQ _ b;have z:=aA _ _ c c;have A:=aA _ _ d d;have gn:=bl _ _ f8 c;have j:=bl _ _ f8 d;have r:=aA _ _ c b;have u:=aA _ _ gn b;have t:=aA _ _ d b;have y:=aA _ _ j b;have q:=xK (am 2) (gr [0,1,1] 253) zu;have l:∀x f,(kI x=f->tW (rH x (aG s) f)=Qj #[Qi (Ns (bm x (aG s) (am 1) (af x (aG s)))),Qk true])/\(¬kI x=f->kI (au (am 0) x)=f->tW (rH x (aG s) f)=Qj #[Qi (Ns (bm (au (am 0) x) (aG s) (am 1) (af (au (am 0) x) (aG s)))),Qk true])/\(¬kI x=f-> ¬kI (au (am 0) x)=f->tW (rH x (aG s) f)=Qj #[Qi (Ns Qf),Qk false]):=λx f=>by
  exact Oy _ _ _ _ _ _ _ _ _ _ _
 refine Ud s (aG s) (af (aG s) (aG s)) fA (am 1) (au (af (aG s) (aG s)) (am 1)) (af fA (af (aG s) (aG s))) (aJ (af fA (af (aG s) (aG s))) (am 1)) (fh (aJ (af fA (af (aG s) (aG s))) (am 1)))
  (om (aG s)) (jP (aG s)) (af (jP (aG s)) (jP (aG s))) (am 2) (oA (am 2) (gr [0,1,1] 253)) (jI (aG s)) (af (jI (aG s)) (jI (aG s))) (am 0) (gr [0] 252) (gr [0,1,1] 253)
  (au (am 0) (jP (aG s))) (af (jP (aG s)) (aG s)) (af (au (am 0) (jP (aG s))) (aG s)) (au (am 0) (jI (aG s))) (af (jI (aG s)) (aG s)) (af (au (am 0) (jI (aG s))) (aG s))
  (bF (aG s)) (rW (af (jP (aG s)) (jP (aG s))) (om (aG s))) (rW (af (jI (aG s)) (jI (aG s))) (om (aG s))) (qs s) (kI (jP (aG s))) (kI (au (am 0) (jP (aG s)))) (kI (jI (aG s))) (kI (au (am 0) (jI (aG s))))
  (tW (cW s)) w o b.1 i.1 fe.1 rfl n.1 gv.1 k.1 c.1 d.1 gn.1 j.1 r.1 u.1 t.1 y.1 (by unfold qs;with_reducible rfl) (λh=>?_) (λh g=>?_) (λh g h2=>?_) (λh g h2=>?_)
  (λa v h=>Wl [0] 252 252 rfl oo dd dd a v h) (λa v h=>Wl [0,1,1] 253 253 rfl oo dd dd a v h)
  (λa v h=>SV _ _ k (by rw[qH _ _ dd];omega) a v h) (λa v h=>SV _ _ zu (by rw[qH _ _ dd];omega) a v h)
  (λa=>Hx s a o) (λa=>IL _ b a) (λa=>gP _ _ b b a) (λa=>Hi a) (λa=>mL 1 a) (λa=>kB _ _ i lm a) (λa=>gP _ _ fe i a) (λa=>oq _ _ m lm a) (λa=>tS _ a gv) (λa=>gP _ _ n p a)
  (λa=>gP _ _ c c a) (λa=>Wj _ _ z k a) (λa=>mL 2 a) (λa=>gP _ _ c q a) (λa=>gP _ _ d d a) (λa=>Wj _ _ A k a) (λa=>mL 0 a)
  (λa=>IP _ c a) (λa=>kB _ _ f8 c a) (λa=>IP _ gn a) (λa=>gP _ _ c b a) (λa=>gP _ _ gn b a)
  (λa=>IP _ d a) (λa=>kB _ _ f8 d a) (λa=>IP _ j a) (λa=>gP _ _ d b a) (λa=>gP _ _ j b a)
 .have e:cW s=none:=by unfold cW;exact if_neg h
  rw[e];exact AU
 .have e:cW s=rH (jP (aG s)) (aG s) (qs s):=by unfold cW;rw[if_pos (show bF (aG s)=tY s from h),if_pos g]
  rw[e];exact l _ _
 .have e:cW s=rH (jI (aG s)) (aG s) (qs s):=by unfold cW;rw[if_pos (show bF (aG s)=tY s from h),if_neg (by rw[g];decide),if_pos h2]
  rw[e];exact l _ _
 .have e:cW s=none:=by unfold cW;rw[if_pos (show bF (aG s)=tY s from h),if_neg (by rw[g];decide),if_neg (by rw[h2];decide)]
  rw[e];exact AU
def jv:List Int:=af (am 4) (fh (am 5))
def da:Qd:=jQ (cW ⟨(bF jv).toArray⟩)
theorem yF(n:Int)(h0:0<=n)(a:n<=5):Qa (am n):=oa n oo oo
theorem Rp_baseY_good:Qa jv:=aA _ _ (yF 4 oo oo) (j8 _ (yF 5 oo oo))
theorem Rp_base_fine:Qc da:=Ge _
theorem OD(w:World):Rw 39 #[] w (Qi (Ns (bc da))):=by
 have x:=oe;have p:=sq;have j:=Qr (mL 4)
 have k:=Qr (mL 5)
 have m:=yF 4 oo oo;have h:=yF 5 oo oo;have f:=Qr λc=>tS _ c h
 have d:Hid (Rv 84 #[Qi (Ns (am 4)),Qi (Ns (fh (am 5)))] (Qi (Ns jv))):=λc=>gP _ _ m (j8 _ h) c
 have g:=Qr (IL _ Rp_baseY_good)
 have e:Hid (Rv 86 #[Qg ⟨(bF jv).toArray⟩] (Qj #[Qi (Ns (bc da)),Qk (cW ⟨(bF jv).toArray⟩).isSome])):=λc=>L9 _ (by have:=iE jv;exact this) c
 have b:(Ns (bc da)).size=64:=by rw[jn,Rp_base_fine.row]
 have i:(Ns jv).size=16:=by rw[jn,Rp_baseY_good.1]
 generalize (cW ⟨(bF jv).toArray⟩).isSome=y at e;generalize bc da=B at e b|-;generalize (⟨(bF jv).toArray⟩:ByteArray)=T at g e;generalize jv=Y at d g i;generalize fh (am 5)=s at f d;generalize am 5=u at k f;generalize am 4=t at j d;clear m h;have n:=rg;generalize Qf=l at p n;have o:=Nz n;have a:=(WD.start (w:=w)).new (Ns l) 61;go_enter Tryz.func39,Tryz.ntmps39;go_wp2_with fail;generalize w.alloc (.cells (Ns l) 61)=F at a|-;refine gvW a j (λG a=>?_);go_wp2_with fail;refine gvW a k (λH a=>?_);go_wp2_with fail;refine gvW a f (λI a=>?_);go_wp2_with fail;refine gvW a d (λq a=>?_);go_wp2_with (first
  |(refine asW a twN i rfl (aK _) (λC a=>?_);generalize q.heap.size=z at a|-)
  |(refine ldW 0 a twN i ?_))
 refine gvW a g (λJ a=>?_);go_wp2_with fail;refine gvW a e (λr a=>?_);go_wp2_with (first
  |(refine asW a twP b o (aK _) (λD a=>?_);generalize r.heap.size=A at a|-)
  |(refine ldW 0 a twP b ?_)
  |(refine stW 2 a twP b o (aK _) (λE a=>?_)))
 refine bodyPost_ret (v:=Qi (Ns B)) ?_ rfl ⟨rfl,a.below⟩;exact rr t61 rfl rfl (a.get 2 rfl) b
def pf(s:ByteArray):ByteArray:=(fQ ai s).extract 0 32
theorem zv(s:Qb):(pf s).size=32:=by unfold pf;rw[ByteArray.size_extract,fR];rfl
def im(s:ByteArray):ByteArray:=⟨(oO (pf s).data.toList).toArray⟩
theorem wV(s:Qb):(im s).size=32:=by
 show(oO (pf s).data.toList).toArray.size=32
 have h:(pf s).data.toList.length=32:=by rw[<-zv s];simp
 rw[List.size_toArray,vS,h]
def dL(s:ByteArray):ByteArray:=⟨(oQ (bU (im s) da)).toArray⟩
theorem Dt(s:Qb):(dL s).size=32:=by
 show(oQ (bU (im s) da)).toArray.size=32
 rw[List.size_toArray,Aj]
def iP(s:ByteArray):ByteArray×Int:=if s.size=32 then(dL s,0)else (⟨#[]⟩,1)
theorem uo(s:Qb)(w:World):
  Rw 21 #[Qg s] w (Qj #[Qg (iP s).1,.int .i64 (iP s).2]):=by
 by_cases h:s.size=32
 .have b:iP s=(dL s,0):=by unfold iP;rw[if_pos h]
  rw[b];clear b;have F:=sq;have z:((s.size:Int)==32)=true:=by rw[beq_iff_eq];omega
  have u:=Qr λc=>kE s c oo
  have p:Hid ((fQ ai s).extract 0 32=pf s):=rfl;have E:=fR ai s;have f:Hid (Rv 38 #[Qg (pf s)] (Qg (im s))):=λc=>Ew _ c (zv s)
  have v:=Qr (OD)
  have d:=Qr (yM _ _ (wV s) Rp_base_fine)
  have o:=rf (im s) da Rp_base_fine;have g:Hid (Rv 40 #[Qi (Ns (bc (bU (im s) da)))] (Qg (dL s))):=λc=>zy _ o c
  have e:(Ns (bc (bU (im s) da))).size=64:=by rw[jn,o.row]
  clear o;generalize bc (bU (im s) da)=R at d g e;generalize bc da=B at v d;generalize dL s=I at g|-;generalize im s=C at f d;generalize pf s=L at p f;generalize fQ ai s=D at u p E;have y:=rg;generalize Qf=i at F y;have H:=Nz y;go_enter Tryz.func21,Tryz.ntmps21;go_wp2_with fail;refine gv u λJ q=>?_
  have A:=p.out;go_wp2_with fail;refine gv f λK r=>?_
  clear A;go_wp2_with fail;refine gv v λM t=>?_
  go_wp2_with fail;refine gv d λa x=>?_
  have k:=q.trans ((r.trans ((t.trans (x.mono t.size)).mono r.size)).mono q.size);clear q r t x;have n:=Blk.new a (Ns i) 61;have m:=n;unfold Blk at m;have h2:=n.row (Ns R);have l:=h2;unfold Blk at l;have j:Below w.heap.size w ((a.alloc (.cells (Ns i) 61)).setRow a.heap.size (Ns R)):=below_setRow (k.alloc k.size _) k.size _;go_wp2_with (first
   |(refine wpList_store_row rfl 61 _ _ rfl a.heap.size _ rfl rfl 61 _ m (by rw[e];exact Tryz.infoP64) (by rw[e,H]) (aK _) ?_)
   |(refine ld t61 rfl rfl a.heap.size rfl l e ?_))
  clear m l h2 n;generalize (a.alloc (.cells (Ns i) 61)).setRow a.heap.size (Ns R)=N at j|-;refine gv g λO G=>?_
  go_wp2;go_ret2;exact⟨rfl,j.trans (G.mono j.size)⟩
 .have b:iP s=(⟨#[]⟩,1):=by unfold iP;rw[if_neg h]
  rw[b];clear b;have z:((s.size:Int)==32)=false:=by rw[beq_eq_false_iff_ne];omega
  go_enter Tryz.func21,Tryz.ntmps21;go_wp2;go_ret2;exact⟨rfl,Below.refl _ _⟩
end Go.Proofs.YtclpbaokadfhhaaGreatDoor
