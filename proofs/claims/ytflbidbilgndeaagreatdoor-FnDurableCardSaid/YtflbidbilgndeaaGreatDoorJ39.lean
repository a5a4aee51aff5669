import Derived.Test.YtflbidbilgndeaaGreatDoorJ36
import Derived.Test.YtflbidbilgndeaaGreatDoorJ40
set_option maxRecDepth 100000
set_option maxHeartbeats 8000000
set_option linter.defProp false
namespace Go.Proofs.YtflbidbilgndeaaGreatDoor
open Go.RowKit Tryz
def gp:∀a:List fB,a.length<=(sE a).size
 |[]=>Oa _
 |t::r=>by
  have:=gp r;rw[sE,Ka,BP,Zb];omega
def aLf{B k:Nat}{a:List fB}{q:jB}(h:k<a.length)(p:∀i(h:i<a.length),cK a[i])(r:TW a)(s:(sE a++q).size<=1000000):∃t:fB,cB (∀W,RV W B (sE (a.drop k)++q)->Calls prog 238 #[.pointer (yB B)] W λe b=>∃M c j d l,e=.returned (.agg #[.string t.N,zA t.L,.slice c t.M.length j,.slice d t.Z.length l])/\W.1.size<=M/\fD b W.1.size c t.M/\(∀g o,c=some (dB g o)->g<M)/\fD b M d t.Z/\M<=b.1.size/\RV b B (sE (a.drop (k+1))++q)/\qD B W b)/\cB (a.take (k+1)=a.take k++[t]):=by
 have f:=Kd ByteArray.size (mS (a.take k) (a.drop k));have e:sE (a.drop k)++q=kR a[k]++(sE (a.drop (k+1))++q):=by
  rw[Cb h,sE,Wa]
 rw[Za]at f;have m:=Kd ByteArray.size e;rw[Ka]at f s m;exact⟨a[k],λW n=>ni (e ▸ n) (p k h) (r k h) (by omega),Pa h⟩
def ot{B:Nat}{lsn c:Int}{d:List fB}{w:World}(S:RV w B (rI lsn c d))(L:BD lsn d)(m:TW d)(I:wU c)(hs:(rI lsn c d).size<=1000000):
 Calls prog 192 #[.pointer (yB B)] w λe P=>∃h H,e=.returned (.tuple #[zA lsn,.agg #[zA c,.slice h d.length H]])/\cD P w.1.size h d/\qD B w P:=by
 have o:=aB S;have h:=gp d;have e:rI lsn c d=yk++(pB 8 lsn++(pB 8 c++(pB 4 (d.length:Nat)++(sE d++pB 4 (cJ (qL lsn c d):Nat))))):=by rw[IW L,qL,CF];simp only[Wa]
 rw[e]at S hs;generalize pB 4 (cJ (qL lsn c d):Nat)=q at *;simp only[Ka,gB]at hs;have G:cB (TG w (w.alloc (.cells #[zA 0,.slice none 0 0] 40)) B w.1.size #[zA 0,.slice none 0 0] 40 _):=⟨nB.new _ _ _,qD.of zB,nB.alloc S _⟩
 have y:cB (∀W,RV W B (yk++(pB 8 lsn++(pB 8 c++(pB 4 (d.length:Nat)++(sE d++q)))))->Calls prog 237 #[.pointer (yB B),zA 4] W λe P=>e=.returned (.string yk)/\RV P B (pB 8 lsn++(pB 8 c++(pB 4 (d.length:Nat)++(sE d++q))))/\qD B W P):=λW h=>by
  have:=TH (n:=4) h (by omega) (by simp only[Ka,gB];omega);rw[yW (n:=4) rfl rfl]at this;exact this
 have z:=bB (λW h=>XO (B:=B) (w:=W) (v:=lsn) (q:=pB 8 c++(pB 4 (d.length:Nat)++(sE d++q))) h ⟨by have:=L.1;omega,by have:=L.2.1;omega⟩ (by simp only[Ka,gB];omega));have A:=bB (λW h=>XO (B:=B) (w:=W) (v:=c) (q:=pB 4 (d.length:Nat)++(sE d++q)) h I (by simp only[Ka,gB];omega));have C:=bB (λW h=>aGf (B:=B) (w:=W) (n:=d.length) (q:=sE d++q) h (by omega) (by rw[Ka];omega));have N:=bB (λk I=>aLf (B:=B) (k:=k) (q:=q) I L.2.2 m (by rw[Ka];omega));have J:d.length<=1000000:=by omega
 have J:=G.o.T.cell 0;simp only[Xb,Ob]at J;go_enter func192,ntmps192;go_wp2_with fail;apply lC (y.o _ G.o.T);rintro w1 ⟨m,l⟩;replace G:=bB (G.o.call m l o);go_wp2_with fail;apply lC (z.o _ G.o.T);rintro w2 ⟨m,l⟩;replace G:=bB (G.o.call m l o);go_wp2_with fail;apply lC (A.o _ G.o.T);rintro J ⟨m,l⟩;replace G:=bB (G.o.call m l o);have O:=aB G.o.Z;have X:=bB (nB.new J #[zA c,.slice none 0 0] 40);replace G:=bB (G.o.alloc (.cells #[zA c,.slice none 0 0] 40));go_wp2_with fail;apply lC (C.o _ G.o.T);rintro Q ⟨m,l⟩;replace G:=bB (G.o.call m l o);replace X:=bB (X.o.but l (by omega));generalize J.1.size=E at *;go_wp2;go_loopw [17] (λi wr=>∃(k:Nat)(v:Value),k<=d.length/\i=zA k/\cB (TG w wr B w.1.size #[zA 0,.slice none 0 0] 40 (sE (d.drop k)++q))/\cB (nB wr E #[zA c,v] 40)/\cB (eR wr (E+1) 94 v k (d.take k))) (λi _=>d.length-(intOf i).toNat)
 case atStart=>exact⟨0,_,Oa _,rfl,G.o,X.o,eR.nil _ _ _⟩
 case round=>
  obtain⟨k,v,I,rfl,G,X,R⟩:=hrel;by_cases I:k<d.length
  .obtain ⟨t,P1,F1⟩:=N.o k I;obtain⟨T,ys,p,r,I,J⟩:=R.o;have N:=bB (⟨r,by have:=Kd List.length r;rw[Xa,Hb]at this;omega,I,J,p.lt⟩:_/\ys.length=k/\_/\_/\_);have I:=bB p;have J:=aB X.o;have J:tC wr E 1 v:=X.o.cell 1;go_wp2_with fail;go_region_law (first
    |((fail_if_success (have q:=a));refine eE (f:=238) (args:=#[.pointer (some ⟨B,0,none⟩)]) rfl (by go_simp) ?_;refine(P1.o _ (nB.z G.o.T iD.drew)).mono ?_;rintro e Q ⟨M,a1,J,a2,O,rfl,U,W,Y,Z,o5,a,V⟩;have u:qD B wr Q:=(qD.of iD.drew).trans V;have F:=bB (X.o.but u (show E≠B by omega));have x4:=F.o.cell 1;have x5:=(F.o.alloc (.cells #[.string t.N,.int .i64 t.L,.slice a1 t.M.length J,.slice a2 t.Z.length O] 94)).cell 1;have O:=bB (⟨U,W,Y,Z,o5⟩:_/\_/\_/\_/\_);refine⟨_,rfl,?_⟩)
    |(have q:=a;refine kQ (by rfl) _ _ (by rfl) underlying38 nO rfl (by omega) (by omega) (v:=v) (by rfl) ((eB.but u).row I.o (λg x e=>by have:=(I.o.lt g x).1;omega)) (by rfl) (by rfl) rfl (by simp[Value.oneCell']) (by omega) (by have:=u.size;omega) ?_;intro I H I J U W;have I:=(U.o.blk F.o (λe=>by omega)).cell 1;have b:=(U.o.blk F.o (λe=>by omega)).free 1))
   all_goals
    obtain⟨Y,Z,I⟩:=vQ F.o U.o J.o (Nat.lt_succ_self _) 1;have K:=λg(x:g<Q.1.size)(h:E+1<=g)(s:v.ownBlock≠some g)=>I.block g x (λe=>e.elim (λe=>by omega) λe=>s e.2);obtain⟨v1,v2,v3,v4,v5⟩:=N.o;have J:=u.size;go_wp2;exact⟨⟨k+1,_,by omega,by go_num,(G.o.call a u o).turn I (λj e=>by omega) o (Ia _),bB (by simpa using Y),bB (by
     rw[F1.o];exact eR.snoc (wr:=wr) (w4:=Q) (M:=M) (v:=v) (T:=T) (ys:=ys) Z v1 v2 v3 v4 (by omega) O.o.1 (λg x l s=>(K g (by omega) l s).trans (u.block g x (by omega))) (λg x Y=>K g Y (by omega) (λe=>by have:=(v5 _ e).2;omega)) O.o.2.1 O.o.2.2.1 O.o.2.2.2.1 (W.o.elim (λh=>Ca ⟨h,(v5 _ h).2⟩) La) J O.o.2.2.2.2)⟩,by simp[intOf];omega⟩
  obtain rfl:k=d.length:=by omega
  rw[Rb]at R;obtain⟨h,rc,rfl⟩:=R.o.row;have I:=X.o.c2;obtain⟨I,J⟩:=G.o.Z.c2;have N:=G.o.Z.free;have N:=aB G.o.Z;go_wp2_with fail;go_region
  go_wp2;have D:=λN O=>(((eB.refl (·=w.1.size) wr).setCell (Ca rfl) 0 N).setCell (Ca rfl) 1 O).drew;refine bodyPost_ret (v:=?_) (by simp[results,results192,go_sem,I,J];rfl) rfl ⟨h,rc,rfl,((R.o.turn (D _ _) (λg e=>by omega)).own rfl).mono (by omega),G.o.N.upToD ((D _ _).below (by omega) λq h e=>by omega)⟩
def ft(p q r:Value)(w:World):
 CallsD prog 191 #[p,q,r] .returning w λe c d=>e=.returned (.tuple #[])/\c=.returning/\d=w:=by
 refine callsD_of_wpS func191 rfl λa cs b=>?_;apply wpS_seq;apply wpS_region;simp[wpOpsS,go_sem,recoverD,b,ntmps191,Exit.thenS];refine wpS_cond (t:=false) (by simp[Act.eval,Array.replicate]) ?_;simp only[Bd,Cf];refine wpS_of_wp (wp_skip ?_);cases a
 simp_all[bodyPostS,results,results191]
structure DS(w W:World)(c:iC)(l n:Int)(v:Value):Prop where
 C:nB W w.1.size #[zA c.w,zA c.tl,zA c.ml,zA c.sh,zA c.ha,zA c.sg] 24
 L:nB W (w.1.size+1) #[zA l] 3
 X:nB W (w.1.size+1+1) #[zA n,v] 40
 Y:nB W (w.1.size+1+1+1) #[.bool false] 4
 B:uB w W
def DS.turn{w W b:World}{S:Nat->Prop}{c:iC}{l n:Int}{v:Value}(h:DS w W c l n v)(a:eB S W b)(d:∀j,S j->w.1.size+1+1+1<j):DS w b c l n v:=by
 have k:∀j,j<=w.1.size+1+1+1->¬S j:=λj f e=>by have:=d j e;omega
 exact⟨a.blk h.C (k _ (by omega)),a.blk h.L (k _ (by omega)),a.blk h.X (k _ (by omega)),a.blk h.Y (k _ (by omega)),h.B.trans (a.below h.B.size λj f=>k j (by omega))⟩
def DS.new(w:World)(c:iC)(s:jB):DS w (((((w.alloc (.cells #[zA c.w,zA c.tl,zA c.ml,zA c.sh,zA c.ha,zA c.sg] 24)).alloc (.cells #[zA 0] 3)).alloc (.cells #[zA 0,.slice none 0 0] 40)).alloc (.cells #[.bool false] 4)).alloc (.cells #[.string s,.bool false] 172)) c 0 0 (.slice none 0 0)/\RV (((((w.alloc (.cells #[zA c.w,zA c.tl,zA c.ml,zA c.sh,zA c.ha,zA c.sg] 24)).alloc (.cells #[zA 0] 3)).alloc (.cells #[zA 0,.slice none 0 0] 40)).alloc (.cells #[.bool false] 4)).alloc (.cells #[.string s,.bool false] 172)) (w.1.size+1+1+1+1) s:=by
 have a:=nB.new (w.alloc (.cells #[zA c.w,zA c.tl,zA c.ml,zA c.sh,zA c.ha,zA c.sg] 24)) #[zA 0] 3;have b:=nB.new ((w.alloc (.cells #[zA c.w,zA c.tl,zA c.ml,zA c.sh,zA c.ha,zA c.sg] 24)).alloc (.cells #[zA 0] 3)) #[zA 0,.slice none 0 0] 40;have d:=nB.new (((w.alloc (.cells #[zA c.w,zA c.tl,zA c.ml,zA c.sh,zA c.ha,zA c.sg] 24)).alloc (.cells #[zA 0] 3)).alloc (.cells #[zA 0,.slice none 0 0] 40)) #[.bool false] 4;have e:=nB.new ((((w.alloc (.cells #[zA c.w,zA c.tl,zA c.ml,zA c.sh,zA c.ha,zA c.sg] 24)).alloc (.cells #[zA 0] 3)).alloc (.cells #[zA 0,.slice none 0 0] 40)).alloc (.cells #[.bool false] 4)) #[.string s,.bool false] 172;exact⟨⟨((((nB.new _ _ _).alloc _).alloc _).alloc _).alloc _,by simpa using ((a.alloc _).alloc _).alloc _,by simpa using (b.alloc _).alloc _,by simpa using d.alloc _,vB (vB (vB (vB zB zB) zB) zB) zB⟩,by unfold RV ZB;simpa using e⟩
def DS.set{w W:World}{c:iC}{l n l' n':Int}{v v':Value}(h:DS w W c l n v):DS w (((W.setCell (dB (w.1.size+1) 0) (zA l')).setCell (dB (w.1.size+1+1) 0) (zA n')).setCell (dB (w.1.size+1+1) 1) v') c l' n' v':=by
 have a:=(eB.refl (·=w.1.size+1) W).setCell (Ca rfl) 0 (zA l');have b:=λV:World=>((eB.refl (·=w.1.size+1+1) V).setCell (Ca rfl) 0 (zA n')).setCell (Ca rfl) 1 v';have f:=h.L.set 0 (zA l');have g:=((a.blk h.X (by omega)).set 0 (zA n')).set 1 v';have d:=h.B.size;exact⟨(b _).blk (a.blk h.C (by omega)) (by omega),(b _).blk (by simpa using f) (by omega),by simpa using g,(b _).blk (a.blk h.Y (by omega)) (by omega),(h.B.trans (a.below d λj i e=>by omega)).trans ((b _).below (by simpa using d) λj i e=>by omega)⟩
def aHh(c:iC)(b:Int)(a:mC)(f:Nat)(d:List fB)(w:World)(n:xC w a d)(i:d.length+cC d<=1048576)(j:uG w)(p:nC c b d=true):
 dF 194 #[rE c,.agg #[zA b,.slice a d.length f]] w (.bool true):=by
 have g:=bB (λW(k:uB w W)=>AP c b a f d 1900000 W (n.z k) (wR (by omega)).1 (by omega) (j.z k));unfold BG at g;rw[p]at g;unfold rE at *;go_enter func194,ntmps194;go_wp2_with fail;refine(g.o _ (vB zB zB)).mono ?_;rintro e r (⟨h,_⟩|⟨-,l,m,rfl,-,-,i⟩)
 .cases h
 have o:=bB (vB (vB zB zB) i);go_wp2;go_ret;exact⟨rfl,o.o⟩
def zg(c:iC)(lsn n:Int)(o:List fB)(w:World)(M:nC c n o=true)(Q:BD lsn o)(K:TW o)(I:wU n)(v:(rI lsn n o).size<=1000000)(s:o.length+cC o<=1048576)(H:uG w):
 Calls prog 124 #[rE c,.string (rI lsn n o)] w λe R=>∃p m,e=.returned (.tuple #[zA lsn,.agg #[zA n,.slice p o.length m],.bool true])/\cD R w.1.size p o/\uB w R:=by
 have h:∀(G:Fn)(first m:Array Value)(w:World),(Instr.makeFunc G first m).run prog w=.ok (.func G first m) w:=λ_ _ _ _=>rfl;have t:=bB (λW B h=>ot (B:=B) (w:=W) h Q K I v);have T:=bB H;have N:=bB (DS.new w c (rI lsn n o));obtain⟨E,_,_,F⟩:=ZW s;have u:=bB (λW p m(h:xC W p o)=>LQ lsn n p m o W h E (by omega) F);have y:=bB (λW p m(h:xC W p o)(C:uG W)=>aHh c n p m o W h s C M);unfold rE at *;generalize rI lsn n o=tx at *;go_enter_defers func124,ntmps124;go_wp2_with fail;refine(t.o _ (w.1.size+1+1+1+1) N.o.2).mono ?_;rintro e z ⟨p,m,rfl,J,s⟩;have X:=bB (N.o.1.turn (eB.but s) (λj e=>by omega));have O:cB (cD z (w.1.size+1+1+1+1+1) p o):=bB (by simpa using J);have C:=X.o.L.cell 0;have C:=X.o.X.c2;have i:=X.o.L.free;have k:=X.o.X.free;go_wp2_with fail;replace X:=bB (X.o.set (l':=lsn) (n':=n) (v':=.slice p o.length m));have P:=(((eB.refl (·<w.1.size+1+1+1) z).setCell (g:=w.1.size+1) (Ca (by omega)) 0 (zA lsn)).setCell (g:=w.1.size+1+1) (Ca (by omega)) 0 (zA n)).setCell (g:=w.1.size+1+1) (Ca (by omega)) 1 (.slice p o.length m);replace O:=bB (O.o.turned P (λg h _ e=>by omega));generalize ((z.setCell (dB (w.1.size+1) 0) (zA lsn)).setCell (dB (w.1.size+1+1) 0) (zA n)).setCell (dB (w.1.size+1+1) 1) (.slice p o.length m)=C at *;apply lC (u.o _ _ _ O.o.tens);intro C q;replace X:=bB (X.o.turn (S:=λ_=>False) (eB.of q) (λj e=>e.elim));replace O:=bB (O.o.z q);have U:=X.o.C.c6;have A:=X.o.X.c2;go_wp2_with fail;apply lC (y.o _ _ _ O.o.tens (T.o.z X.o.B));intro C r;replace X:=bB (X.o.turn (S:=λ_=>False) (eB.of r) (λj e=>e.elim));replace O:=bB (O.o.z r);obtain⟨A,D⟩:=X.o.X.c2;go_wp2_with fail;have G:=X.o.L.cell 0;have I:=X.o.Y.cell 0;have i:=X.o.L.free;have k:=X.o.X.free;have l:=X.o.Y.free;refine tD (CA _ _) ?_;go_wp2_with fail;go_region
 go_wp2;refine leaves_cons (f:=191) (args:=#[.pointer (yB (w.1.size+1)),.pointer (yB (w.1.size+1+1)),.pointer (yB (w.1.size+1+1+1))]) (by simp) (by simp[go_sem]) ?_;refine(ft _ _ _ _).mono ?_;rintro e J J ⟨rfl,rfl,rfl⟩;simp[Leaves,settle,results,results124,go_sem,G,A,D,I];have x:=λa b c d=>((((eB.refl (λg=>w.1.size<=g/\g<w.1.size+1+1+1+1) C).setCell (g:=w.1.size+1) (Ca (by omega)) 0 a).setCell (g:=w.1.size+1+1) (Ca (by omega)) 0 b).setCell (g:=w.1.size+1+1) (Ca (by omega)) 1 c).setCell (g:=w.1.size+1+1+1) (Ca (by omega)) 0 d;have v:=X.o.B.size;first
  |exact⟨(O.o.turned (x _ _ _ _) (λg h _ e=>by omega)).mono (by omega),X.o.B.trans ((x _ _ _ _).below v λj C e=>by omega)⟩
  |exact⟨(O.o.turned (x _ _ _ _).drew (λg h _ e=>by omega)).mono (by omega),X.o.B.trans ((x _ _ _ _).drew.below v λj C e=>by omega)⟩
def fF:List jB->jB
 |[]=>ByteArray.empty
 |p::r=>uD p++fF r
def KQ(p:jB):Prop:=1<=p.size/\p.size<=60000
def xq(l:List jB):Prop:=∀p∈l,KQ p
def EG(p:jB):∀l,fF (l++[p])=fF l++uD p
 |[]=>by simp[fF]
 |q::l=>by simp only[Sd,fF,EG p l,Wa]
def AM(v:Int):(pB 4 v).data.toList.length=4:=by rw[kT,gB]
def EC{p:jB}(h:KQ p)(r:jB):(uD p++r).data.toList=(pB 4 (p.size:Nat)).data.toList++((pB 4 (cJ p:Nat)).data.toList++(p.data.toList++r.data.toList)):=by
 rw[uD,Ma (show 1<=p.size/\p.size<=60000 from h),qM,qM,qM];simp only[Nd]
def qT{p:jB}(h:KQ p)(r:jB):mG (uD p++r)=p.size:=by
 have a:p.size<256 ^ 4:=by have:=h.2;omega
 unfold mG aI;rw[EC h,Kf,Pg (AM _),qQ 4 _ a]
def aAd{p:jB}(h:KQ p)(r:jB):jT (aI (uD p++r) 4 4)=cJ p:=by
 have a:cJ p<256 ^ 4:=by have:=ZQ p;omega
 unfold aI;rw[EC h,List.drop_left' (AM _),Pg (AM _),qQ 4 _ a]
def WO{p:jB}(h:KQ p)(r:jB):(uD p++r).extract 8 (8+p.size)=p:=by
 apply DU;rw[cO,aI,EC h,show(8:Nat)=4+4 from rfl,<-List.drop_drop,List.drop_left' (AM _),List.drop_left' (AM _),Pg (kT p)]
def aEu{p:jB}(h:KQ p)(r:jB):jJ (uD p++r):=by
 have a:(uD p++r).size=8+p.size+r.size:=by rw[Ka,mO h]
 refine⟨by omega,?_,?_,?_,?_⟩;rw[qT h];exact h.1;rw[qT h];exact h.2;rw[qT h];omega;rw[qT h,WO h,aAd h]
def nf(a b:jB):(a++b).extract a.size (a++b).size=b:=by
 have:=cO (a++b) a.size b.size;apply DU;rw[show(a++b).size=a.size+b.size from Ka,this,aI,qM,List.drop_left' (kT a),Ra (by rw[kT];exact Ia _)]
def yT(p:jB)(l:List jB)(t:jB):fF (p::l)++t=uD p++(fF l++t):=by rw[fF,Wa]
def SO(t:jB)(d:¬jJ t):∀(l:List jB)(pre:jB)(n:Nat),xq l->l.length<n->DE (pre++(fF l++t)) n pre.size=(l,pre.size+(fF l).size)
 |_,_,0,_,b=>absurd b (Nat.not_lt_zero _)
 |[],pre,n+1,_,_=>by
  have e:fF []++t=t:=by simp[fF]
  rw[DE,nf,e,Ja d];simp[fF]
 |p::l,pre,n+1,c,b=>by
  have a:KQ p:=c p (by simp);have f:=SO t d l (pre++uD p) n (λq g=>c q (by simp[g])) (by simpa using b);rw[Wa,<-yT,Ka,mO a]at f;rw[DE,nf,yT,Ma (aEu a _)];simp only[qT a,WO a];rw[<-yT,show pre.size+8+p.size=pre.size+(8+p.size) by omega,f];simp only[fF,Ka,mO a,Dc,true_and];omega
def JZ:∀{l:List jB},xq l->9*l.length<=(fF l).size
 |[],_=>by simp[fF]
 |p::l,b=>by
  have a:KQ p:=b p (by simp);have d:=JZ (l:=l) (λq c=>b q (by simp[c]));have:=a.1;simp only[fF,Ka,mO a,Zb];omega
def sr{t:jB}(b:¬jJ t){l:List jB}(a:xq l):jV (fF l++t)=(l,(fF l).size):=by
 have c:=JZ a;have d:(fF l++t).size=(fF l).size+t.size:=Ka;have h:=SO t b l ByteArray.empty ((fF l++t).size+1) a (by omega);have e:ByteArray.empty++(fF l++t)=fF l++t:=ByteArray.empty_append;rw[e]at h;unfold jV;simpa using h
def vO.tu{w f:World}{B D:Nat}{S:Nat->Prop}{a:mC}{m:List xD}(h:vO w B a m)(r:eB S w f)(o:∀g,S g->g<B)(x:D<=B):vO f D a m:=by
 obtain h|⟨b,s,c,t,rfl,n,k,d⟩:=h;exact Ca h;have l:=r.block b (aB k) (λe=>by have:=o b e;omega);have p:∀j,f.cell? (dB b j)=w.cell? (dB b j):=λj=>World.cell?_of_block l;exact La ⟨b,s,c,t,rfl,Ua x n,l.trans k,λi q=>by simp only[p];exact d i q⟩
def aKo{B k:Nat}{a:List xD}(h:k<a.length)(o:oc a)(p:JK a)(r:(wH a).size<=1000000):∃(f g:Int)(l m v i j:jB),cB (∀W,RV W B (wH (a.drop k))->Calls prog 147 #[.pointer (yB B),zA 1] W λe b=>e=.returned (zA f)/\RV b B v/\qD B W b)/\cB (∀W,RV W B v->Calls prog 149 #[.pointer (yB B),zA 1] W λe b=>e=.returned (.string l)/\RV b B i/\qD B W b)/\cB (∀W,RV W B i->Calls prog 149 #[.pointer (yB B),zA 2] W λe b=>e=.returned (.string m)/\RV b B j/\qD B W b)/\cB (∀W,RV W B j->Calls prog 147 #[.pointer (yB B),zA 8] W λe b=>e=.returned (zA g)/\RV b B (wH (a.drop (k+1)))/\qD B W b)/\cB (iW (a.take (k+1))=iW (a.take k)++[zA f,.string l,.string m,zA g]):=by
 have d:=Kd ByteArray.size (pX (a.take k) (a.drop k));have e:wH (a.drop k)=pB 1 a[k].K++(pB 1 (a[k].T.size:Nat)++a[k].T++(pB 2 (a[k].X.size:Nat)++a[k].X++(pB 8 a[k].U++wH (a.drop (k+1))))):=by
  rw[Cb h,wH,UI,aN,aG];simp only[Wa]
 have n:=Kd ByteArray.size e;rw[Za]at d;obtain⟨t,u,s⟩:=o k h;simp only[Ka,gB]at d r n;refine⟨a[k].K,a[k].U,a[k].T,a[k].X,_,_,_,λW c=>?_,λW c=>xW (k:=1) c (by omega) (by omega) (by simp only[Ka,gB];omega),λW c=>xW (k:=2) c (by omega) (by omega) (by simp only[Ka,gB];omega),λW c=>XO c (p k h).2 (by omega),by show _=_;rw[Pa h];simp only[iW,He,Xc,List.flatMap_nil,Cd]⟩;rw[e]at c;refine oR (k:=1) c (by omega) ?_ (by simp only[Ka,gB];omega);rcases s with⟨q,_⟩|⟨q,_⟩|q<;>(rw[q];decide)
def og{B:Nat}{l:Int}{n:List xD}{w:World}(E:RV w B (lJ l n))(r:dW l n)(p:JK n)(P:(lJ l n).size<=1000000):
 Calls prog 200 #[.pointer (yB B)] w λe Y=>∃Q A,e=.returned (.agg #[zA l,.slice Q n.length A])/\vO Y w.1.size Q n/\qD B w Y:=by
 have o:=aB E;rw[FW r,show BI l n.length++wH n=pB 8 l++(pB 2 (n.length:Nat)++wH n) by rw[BI,Wa]]at E P;simp only[Ka,gB]at P;have G:cB (TG w (w.alloc (.cells #[zA 0,.slice none 0 0] 127)) B w.1.size #[zA 0,.slice none 0 0] 127 _):=⟨nB.new _ _ _,qD.of zB,nB.alloc E _⟩
 have t:=bB (λW h=>XO (B:=B) (w:=W) (v:=l) (q:=pB 2 (n.length:Nat)++wH n) h ⟨by have:=r.1;omega,by have:=r.2.1;omega⟩ (by simp only[Ka,gB];omega));have u:=bB (λW h=>oR (B:=B) (w:=W) (k:=2) (v:=(n.length:Nat)) (q:=wH n) h (by omega) (lZ (by have:=r.2.2.2.1;omega) (by have:=r.2.2.2.1;omega)) (by omega));have I:=bB (λk V=>aKo (B:=B) (k:=k) V r.2.2.2.2 p (by omega));have J:=r.2.2.2.1;clear E P r p;go_enter func200,ntmps200;go_wp2_with fail;apply lC (t.o _ G.o.T);rintro F ⟨p,s⟩;replace G:=bB (G.o.call p s o);have J:=aB G.o.Z;have X:=bB (nB.new F #[zA l,.slice none 0 0] 127);replace G:=bB (G.o.alloc (.cells #[zA l,.slice none 0 0] 127));clear p s t;go_wp2_with fail;apply lC (u.o _ G.o.T);rintro N ⟨p,s⟩;replace G:=bB (G.o.call p s o);replace X:=bB (X.o.but s (by omega));clear p s u;generalize F.1.size=y at *;go_wp2;go_loopw [9] (λi wr=>∃(k:Nat)(v:Value),k<=n.length/\i=zA k/\cB (TG w wr B w.1.size #[zA 0,.slice none 0 0] 127 (wH (n.drop k)))/\cB (nB wr y #[zA l,v] 127)/\cB (wr.ownsRow (y+1) 137 4 v k (iW (n.take k)))) (λi _=>n.length-(intOf i).toNat)
 case atStart=>exact⟨0,_,Oa _,rfl,G.o,X.o,World.ownsRow_nil _ _ _ _⟩
 case round=>
  clear G X;obtain⟨k,v,V,rfl,G,X,R⟩:=hrel;by_cases O:k<n.length
  .obtain ⟨ki,nu,te,tx,rA,rB,rC,P1,P2,P3,P4,F1⟩:=I.o k O;have I:=aB X.o;have I:tC wr y 1 v:=X.o.cell 1;have I:=bB (λW(h:qD B wr W)=>(X.o.but h (show y≠B by omega)).cell 1);go_wp2_with fail;go_region_law (first
    |((fail_if_success (have q:=a));refine eE (f:=147) (args:=#[.pointer (some ⟨B,0,none⟩),.int .i64 1]) rfl (by go_simp) ?_;apply lC (P1.o _ (nB.z G.o.T iD.drew));rintro F ⟨a,J⟩;have C:qD B wr F:=(qD.of iD.drew).trans J;have h:=I.o _ C;refine⟨_,rfl,?_⟩)
    |(have q:=a;clear q;(fail_if_success (have q:=b));refine eE (f:=149) (args:=#[.pointer (some ⟨B,0,none⟩),.int .i64 1]) rfl (by go_simp) ?_;apply lC (P2.o _ a);rintro w2 ⟨b,K⟩;have S:qD B wr w2:=C.trans K;have J:=I.o _ S;refine⟨_,rfl,?_⟩)
    |(have q:=b;clear q;(fail_if_success (have q:=c));refine eE (f:=149) (args:=#[.pointer (some ⟨B,0,none⟩),.int .i64 2]) rfl (by go_simp) ?_;apply lC (P3.o _ b);rintro N ⟨c,L⟩;have U:qD B wr N:=S.trans L;have J:=I.o _ U;refine⟨_,rfl,?_⟩)
    |(have q:=c;clear q;(fail_if_success (have q:=d));refine eE (f:=147) (args:=#[.pointer (some ⟨B,0,none⟩),.int .i64 8]) rfl (by go_simp) ?_;apply lC (P4.o _ c);rintro w4 ⟨d,M⟩;have D:qD B wr w4:=U.trans M;have z:=bB (X.o.but D (show y≠B by omega));have I:=z.o.cell 1;have I:=(z.o.alloc (.cells #[.int .i64 ki,.string te,.string tx,.int .i64 nu] 137)).cell 1;refine⟨_,rfl,?_⟩)
    |(have q:=d;clear q;refine kQ (by rfl) _ _ (by rfl) underlying125 QW rfl (by omega) (by omega) (v:=v) (by rfl) ((eB.but D).row R.o (λg I e=>by have:=(R.o.lt g I).1;omega)) (by rfl) (by rfl) rfl (by simp[Value.oneCell']) (by omega) (by have:=D.size;omega) ?_;intro I A I I H _;have J:=(H.o.blk z.o (λe=>by omega)).cell 1;have m:=(H.o.blk z.o (λe=>by omega)).free 1))
   all_goals
    obtain⟨J,N,O⟩:=vQ z.o H.o I.o (Nat.lt_succ_self _) 1;go_wp2;exact⟨⟨k+1,_,by omega,by go_num,(G.o.call d D o).turn O (λj e=>by omega) o (Ia _),bB (by simpa using J),bB (by rw[F1.o];exact N)⟩,by simp[intOf];omega⟩
  obtain rfl:k=n.length:=by omega
  rw[Rb]at R;obtain⟨I,rc,rfl⟩:=tF R.o;obtain⟨J,a1⟩:=X.o.c2;obtain⟨J,C⟩:=G.o.Z.c2;have N:=G.o.Z.free;have N:=aB G.o.Z;go_wp2;have x:=λN h=>((eB.refl (·=w.1.size) wr).setCell (Ca rfl) 0 N).setCell (Ca rfl) 1 h;refine bodyPost_ret (v:=?_) (by simp[results,results200,go_sem,J,C];rfl) rfl ⟨I,rc,rfl,((AW R.o).tu (x _ _) (λg e=>by omega) (by omega)),G.o.N.upToD ((x _ _).below (by omega) λq h e=>by omega)⟩
def fp(p q:Value)(w:World):
 CallsD prog 199 #[p,q] .returning w λe c d=>e=.returned (.tuple #[])/\c=.returning/\d=w:=by
 refine callsD_of_wpS func199 rfl λa cs b=>?_;apply wpS_seq;apply wpS_region;simp[wpOpsS,go_sem,recoverD,b,ntmps199,Exit.thenS];refine wpS_cond (t:=false) (by simp[Act.eval,Array.replicate]) ?_;simp only[Bd,Cf];refine wpS_of_wp (wp_skip ?_);cases a
 simp_all[bodyPostS,results,results199]
structure DcB(w W:World)(l:Int)(v:Value):Prop where
 X:nB W w.1.size #[zA l,v] 127
 Y:nB W (w.1.size+1) #[.bool false] 4
 B:uB w W
def DcB.turn{w W c:World}{S:Nat->Prop}{l:Int}{v:Value}(h:DcB w W l v)(b:eB S W c)(a:∀j,S j->w.1.size+1<j):DcB w c l v:=⟨b.blk h.X λe=>by have:=a _ e;omega,b.blk h.Y λe=>by have:=a _ e;omega,h.B.trans (b.below h.B.size λj d e=>by have:=a _ e;omega)⟩
def DcB.new(w:World)(s:jB):DcB w (((w.alloc (.cells #[zA 0,.slice none 0 0] 127)).alloc (.cells #[.bool false] 4)).alloc (.cells #[.string s,.bool false] 172)) 0 (.slice none 0 0)/\RV (((w.alloc (.cells #[zA 0,.slice none 0 0] 127)).alloc (.cells #[.bool false] 4)).alloc (.cells #[.string s,.bool false] 172)) (w.1.size+1+1) s:=by
 have a:=(nB.new (w.alloc (.cells #[zA 0,.slice none 0 0] 127)) #[.bool false] 4).alloc (.cells #[.string s,.bool false] 172);have b:=nB.new ((w.alloc (.cells #[zA 0,.slice none 0 0] 127)).alloc (.cells #[.bool false] 4)) #[.string s,.bool false] 172;exact⟨⟨((nB.new _ _ _).alloc _).alloc _,by simpa using a,vB (vB zB zB) zB⟩,by unfold RV ZB;simpa using b⟩
def DcB.set{w W:World}{l l':Int}{v v':Value}(h:DcB w W l v):DcB w ((W.setCell (dB w.1.size 0) (zA l')).setCell (dB w.1.size 1) v') l' v':=by
 have a:=((eB.refl (·=w.1.size) W).setCell (Ca rfl) 0 (zA l')).setCell (Ca rfl) 1 v';exact⟨by have:=(h.X.set 0 (zA l')).set 1 v';simpa using this,a.blk h.Y (by omega),h.B.trans (a.below h.B.size λj b e=>by omega)⟩
def zf(l:Int)(n:List xD)(w:World)(t:dW l n)(z:JK n)(C:(lJ l n).size<=1000000):
 Calls prog 129 #[.string (lJ l n)] w λe D=>∃o m,e=.returned (.tuple #[.agg #[zA l,.slice o n.length m],.bool true])/\vO D w.1.size o n/\uB w D:=by
 have r:=bB (λW B h=>og (B:=B) (w:=W) h t z C);have N:=bB (DcB.new w (lJ l n));have p:xk n:=λi x=>⟨by have:=(t.2.2.2.2 i x).1;omega,by have:=(t.2.2.2.2 i x).2.1;omega⟩
 have s:=bB (λW o m(h:tI W o n)=>LO l o m n W h p (by have:=t.2.2.2.1;omega));clear t z C p;generalize lJ l n=P at *;go_enter_defers func129,ntmps129;go_wp2_with fail;refine(r.o _ (w.1.size+1+1) N.o.2).mono ?_;rintro e u ⟨o,m,rfl,y,v⟩;have X:=bB (N.o.1.turn (eB.but v) (λj e=>by omega));have O:cB (vO u (w.1.size+1+1+1) o n):=bB (by simpa using y);obtain⟨K,L⟩:=X.o.X.c2;have d:=X.o.X.free;clear v r N y;go_wp2_with fail;replace X:=bB (X.o.set (l':=l) (v':=.slice o n.length m));have A:=((eB.refl (·=w.1.size) u).setCell (Ca rfl) 0 (zA l)).setCell (Ca rfl) 1 (.slice o n.length m);replace O:=bB (O.o.tu A (λg e=>by omega) (Ia _));clear K L d A;generalize (u.setCell (dB w.1.size 0) (zA l)).setCell (dB w.1.size 1) (.slice o n.length m)=M at *;apply lC (s.o _ _ _ O.o.recs);intro G q;replace X:=bB (X.o.turn (S:=λ_=>False) (eB.of q) (λj e=>e.elim));replace O:=bB (O.o.tu (S:=λ_=>False) (eB.of q) (λj e=>e.elim) (Ia _));obtain⟨H,I⟩:=X.o.X.c2;have J:=X.o.Y.cell 0;have d:=X.o.X.free;have k:=X.o.Y.free;clear q s;go_wp2_with fail;refine tD (CA _ _) ?_;go_wp2;refine leaves_cons (f:=199) (args:=#[.pointer (yB w.1.size),.pointer (yB (w.1.size+1))]) (by simp) (by simp[go_sem]) ?_;refine(fp _ _ _).mono ?_;rintro e Q F ⟨rfl,rfl,rfl⟩;simp[Leaves,settle,results,results129,go_sem,H,I,J];have E:=λa b c=>(((eB.refl (·<w.1.size+1+1+1) G).setCell (g:=w.1.size) (Ca (by omega)) 0 a).setCell (g:=w.1.size) (Ca (by omega)) 1 b).setCell (g:=w.1.size+1) (Ca (by omega)) 0 c;exact⟨O.o.tu (E _ _ _) (λg e=>e) (by omega),((X.o.B.setCell (by simp) _).setCell (by simp) _).setCell (by simp) _⟩
def UR:List jB:=[⟨#[117,112]⟩,⟨#[99,112,117]⟩,⟨#[109,101,109]⟩,⟨#[117,112]⟩]
def AK:List jB:=[⟨#[106,111,98]⟩,⟨#[104,111,115,116]⟩,⟨#[95,120]⟩,⟨#[90,111,110,101]⟩,⟨#[97,49]⟩,⟨#[108,101]⟩]
def jn(a:List Nat)(b:jB)(x:List dC×lL):List dC×lL:=
 if (eC a x.2 3).1=0 then
  (if (eC a (iO a (eC a x.2 3).2).2 2).1=0 then x.1++[⟨b,(iO a (eC a x.2 3).2).1⟩] else⟨b,(iO a (eC a x.2 3).2).1⟩:: x.1,(eC a (iO a (eC a x.2 3).2).2 2).2)
 else(x.1,(eC a x.2 3).2)
def AG(a:List Nat)(m:jB)(σ:lL):Nat->List dC×lL
 |0=>([⟨⟨#[95,95,110,97,109,101,95,95]⟩,m⟩],σ)
 |k+1=>jn a (AK.getD k ⟨#[]⟩) (AG a m σ k)
def yM(a:List Nat)(σ:lL):List dC×lL:=AG a (UR.getD (eC a σ 4).1 ⟨#[]⟩) (eC a σ 4).2 6
def aJo(a:List Nat)(b:jB)(x:List dC×lL)(e:b.size<=65)(c:gX x.1):gX (jn a b x).1/\(jn a b x).1.length<=x.1.length+1/\x.1.length<=(jn a b x).1.length/\(jn a b x).2.k<=x.2.k+6:=by
 have f:=aJ a x.2 3;have g:=YX a (eC a x.2 3).2;have h:=aJ a (iO a (eC a x.2 3).2).2 2;have d:b.size<=65/\(iO a (eC a x.2 3).2).1.size<=258:=⟨e,by omega⟩
 unfold jn;split
 .refine ⟨?_,?_,?_,by simp only;omega⟩
  .simp only;split
   .exact YL c d
   exact aCk c d
  .simp only;split<;>simp
  simp only;split<;>simp
 exact ⟨c,Gf _,Ia _,by simp only;omega⟩
def vi(a:List Nat)(m:jB)(σ:lL)(d:m.size<=65)(k:Nat):gX (AG a m σ k).1/\(AG a m σ k).1.length<=k+1/\1<=(AG a m σ k).1.length/\(AG a m σ k).2.k<=σ.k+6*k:=by
 induction k with
 |zero=>
  refine⟨λl b=>?_,Ia _,Ia _,Ia _⟩;rw[AG,Uf]at b;subst b;exact⟨by show(8:Nat)<=65;omega,Ua d (by omega)⟩
 |succ k e=>
  obtain⟨c,g,h,i⟩:=e;have j:=wK (L:=AK) (m:=4) (by decide) k;obtain⟨f,n,o,p⟩:=aJo a (AK.getD k ⟨#[]⟩) (AG a m σ k) (by omega) c;rw[AG];exact⟨f,by omega,by omega,by omega⟩
def qy(a:List Nat)(σ:lL):gX (yM a σ).1/\(yM a σ).1.length<=7/\1<=(yM a σ).1.length/\(yM a σ).2.k<=σ.k+37:=by
 have e:=aJ a σ 4;have f:=wK (L:=UR) (m:=4) (by decide) (eC a σ 4).1;obtain⟨b,c,d,g⟩:=vi a (UR.getD (eC a σ 4).1 ⟨#[]⟩) (eC a σ 4).2 (by omega) 6;unfold yM;exact⟨b,c,d,by omega⟩
def NG(B P:Nat)(a:List Nat)(σ:lL)(w:World)(h:kF w B P a σ)(hN:σ.k<=100000):
 Calls prog 35 #[.pointer (some ⟨B,0,none⟩)] w λe r=>∃g x,e=.returned (.slice (some ⟨g,0,none⟩) (yM a σ).1.length x)/\r.ownsRow w.1.size 181 2 (.slice (some ⟨g,0,none⟩) (yM a σ).1.length x) (yM a σ).1.length (vC (yM a σ).1)/\kF r B P a (yM a σ).2/\qD B w r:=by
 obtain⟨ti,hti,ht0,ht1,ht2⟩:=GQ;have HI:cB (prog.info? 181=some ti):=hti;clear hti;have HC:cB (kF w B P a σ):=h;have hlt:=h.lt;have hPw:=h.up.2;clear h;have X:cB (∀W,kF W B P a σ->Calls prog 13 #[.pointer (some ⟨B,0,none⟩),.int .i64 4] W λe r=>e=.returned (.int .i64 ((eC a σ 4).1:Nat))/\kF r B P a (eC a σ 4).2/\qD B W r):=λW h=>oF B P a σ 4 W h (by omega) (by omega);have hv:=yH a σ (n:=4) (by omega);have hk1:=aJ a σ 4;unfold yM;generalize eC a σ 4=R at *;obtain⟨v,τ⟩:=R;simp only at X hv hk1 |-
 have hmz:=wK (L:=UR) (m:=4) (by decide) v;obtain⟨K,e0⟩:∃K,UR.getD v ⟨#[]⟩=K:=⟨_,rfl⟩
 rw[e0]at hmz |-
 have HMV:=bB e0;clear e0;go_enter func35,ntmps35;go_wp2_with fail;have N:cB (uR (w.alloc (.cells (AK.map Value.string).toArray 9)) w.1.size AK):=aU w AK _;simp only[AK,Fc,Ag]at N;have HNN:cB (AK=[⟨#[106,111,98]⟩,⟨#[104,111,115,116]⟩,⟨#[95,120]⟩,⟨#[90,111,110,101]⟩,⟨#[97,49]⟩,⟨#[108,101]⟩]):=bB rfl;have HMN:cB (UR=[⟨#[117,112]⟩,⟨#[99,112,117]⟩,⟨#[109,101,109]⟩,⟨#[117,112]⟩]):=bB rfl;generalize b0:w.alloc (.cells #[.string ⟨#[106,111,98]⟩,.string ⟨#[104,111,115,116]⟩,.string ⟨#[95,120]⟩,.string ⟨#[90,111,110,101]⟩,.string ⟨#[97,49]⟩,.string ⟨#[108,101]⟩] 9)=Q at *;have hz0:Q.1.size=w.1.size+1:=by rw[<-b0];simp
 have U:cB (uB w Q):=by show Below _ _ _;rw[<-b0];exact zB
 clear b0;have O:cB (uR (Q.alloc (.cells (UR.map Value.string).toArray 9)) Q.1.size UR):=aU Q UR _;simp only[UR,Fc,Ag]at O;generalize c0:Q.alloc (.cells #[.string ⟨#[117,112]⟩,.string ⟨#[99,112,117]⟩,.string ⟨#[109,101,109]⟩,.string ⟨#[117,112]⟩] 9)=W1 at *;have hz1:W1.1.size=w.1.size+2:=by rw[<-c0];simp;omega
 have M:cB (uB Q W1):=by show Below _ _ _;rw[<-c0];exact zB
 clear c0;have hC1:=(HC.o.z U.o).z M.o;apply lC (X.o _ hC1);rintro w1 ⟨hc1,E⟩;rw[hz0]at O;have HRm:=O.o.but E (by omega);have I:=HRm.at (j:=v) (by simpa using hv)
 rw[<-HMN.o]at I;rw[<-HNN.o]at N;rw[HMV.o]at I;have H1:cB (kF w1 B P a τ/\qD B w w1/\uR w1 w.1.size AK):=⟨hc1,((qD.of U.o).trans (qD.of M.o)).trans E,(N.o.z M.o).but E (by omega)⟩
 have hz2:w.1.size+2<=w1.1.size:=by have:=E.size;omega
 clear hc1 E hC1 N O HRm U M HC hz0 hz1 Q W1 HNN HMN X HMV;have hv':(v:Int)<4:=by omega
 go_wp2;go_loopw [5,7,8,20] (λout _ _ i wr=>∃(k g x:Nat),k<=6/\i=.int .i64 (k:Nat)/\out=.slice (some ⟨g,0,none⟩) (AG a K τ k).1.length x/\cB (kF wr B P a (AG a K τ k).2/\qD B w wr/\uR wr w.1.size AK)/\cB (wr.ownsRow (w.1.size+1) 181 2 (.slice (some ⟨g,0,none⟩) (AG a K τ k).1.length x) (AG a K τ k).1.length (vC (AG a K τ k).1))/\w.1.size+2<=wr.1.size) (λ_ _ _ i _=>6-(intOf i).toNat)
 case atStart=>exact⟨0,w1.1.size,1,by omega,rfl,rfl,⟨H1.o.1.z zB,H1.o.2.1.z zB,H1.o.2.2.z zB⟩,wa (by omega) (heap_alloc_new _ _),by simp;omega⟩
 case round=>
  clear H1;obtain⟨k,g,x,hk,rfl,rfl,S,s,hsz⟩:=hrel;obtain⟨hS,hL7,hL1,hK⟩:=vi a K τ (by omega) k;by_cases hlt6:k<6
  .have hk6:(k:Int)<6:=by omega
   have hnc:=S.o.2.2.at (j:=k) (by simpa[AK]using hlt6)
   have c:cB (AG a K τ (k+1)=jn a (AK.getD k ⟨#[]⟩) (AG a K τ k)):=bB rfl;generalize AG a K τ k=A at *;obtain⟨b,υ⟩:=A;simp only at S s hS hL7 hL1 hK c;obtain⟨t,hnm⟩:∃t,AK.getD k ⟨#[]⟩=t:=⟨_,rfl⟩
   have hns:=wK (L:=AK) (m:=4) (by decide) k;rw[hnm]at hnc hns c;clear hnm;have Y:cB (∀W,kF W B P a υ->Calls prog 13 #[.pointer (some ⟨B,0,none⟩),.int .i64 3] W λe r=>e=.returned (.int .i64 ((eC a υ 3).1:Nat))/\kF r B P a (eC a υ 3).2/\qD B W r):=λW h=>oF B P a υ 3 W h (by omega) (by omega);have hp3:=yH a υ (n:=3) (by omega);have hk3:=aJ a υ 3;unfold jn at c;simp only at c;generalize eC a υ 3=R3 at *;obtain⟨v2,υ3⟩:=R3;simp only at Y hp3 hk3 c;go_wp2_with fail;apply lC (Y.o _ S.o.1);rintro w2 ⟨hc2,F⟩;have H2:cB (kF w2 B P a υ3/\qD B w w2/\uR w2 w.1.size AK):=⟨hc2,S.o.2.1.trans F,S.o.2.2.but F (by omega)⟩
   have o:cB (w2.ownsRow (w.1.size+1) 181 2 (.slice (some ⟨g,0,none⟩) b.length x) b.length (vC b)):=iP s.o F (by omega);have hsz2:w.1.size+2<=w2.1.size:=by have:=F.size;omega
   clear hc2 F S s hnc Y;by_cases h0:v2=0
   .subst h0;rw[Ma rfl]at c;have a0:cB (∀W,kF W B P a υ3->Calls prog 94 #[.pointer (some ⟨B,0,none⟩)] W λe r=>e=.returned (.string (iO a υ3).1)/\kF r B P a (iO a υ3).2/\qD B W r):=λW h=>PT B P a υ3 W h (by omega);have hvx:=YX a υ3;generalize iO a υ3=V at *;obtain⟨z,υ4⟩:=V;simp only at a0 hvx c;have Z:cB (∀W,kF W B P a υ4->Calls prog 13 #[.pointer (some ⟨B,0,none⟩),.int .i64 2] W λe r=>e=.returned (.int .i64 ((eC a υ4 2).1:Nat))/\kF r B P a (eC a υ4 2).2/\qD B W r):=λW h=>oF B P a υ4 2 W h (by omega) (by omega);have hp4:=yH a υ4 (n:=2) (by omega);generalize eC a υ4 2=R4 at *;obtain⟨v4,υ5⟩:=R4;simp only at Z hp4 c;go_wp2_with fail;apply lC (a0.o _ H2.o.1);rintro T ⟨hc3,G⟩;have H3:cB (kF T B P a υ4/\qD B w T/\uR T w.1.size AK):=⟨hc3,H2.o.2.1.trans G,H2.o.2.2.but G (by omega)⟩
    have C:cB (T.ownsRow (w.1.size+1) 181 2 (.slice (some ⟨g,0,none⟩) b.length x) b.length (vC b)):=iP o.o G (by omega);have hsz3:w.1.size+2<=T.1.size:=by have:=G.size;omega
    clear hc3 G H2 o a0;go_wp2_with fail;apply lC (Z.o _ (H3.o.1.z zB));rintro u ⟨hc4,y⟩;have d0:nB (T.alloc (.cells #[.string t,.string z] 181)) T.1.size #[.string t,.string z] 181:=heap_alloc_new _ _;have H:nB u T.1.size #[.string t,.string z] 181:=(y.block _ (aB d0) (by omega)).trans d0;have x0:=nB.cell H 0;have x1:=nB.cell H 1;simp only[Xb,Ob,Ga]at x0 x1;have H4:cB (kF u B P a υ5/\qD B w u/\uR u w.1.size AK):=⟨hc4,(H3.o.2.1.z zB).trans y,(H3.o.2.2.z zB).but y (by omega)⟩
    have p:cB (u.ownsRow (w.1.size+1) 181 2 (.slice (some ⟨g,0,none⟩) b.length x) b.length (vC b)):=iP (hC C.o zB) y (by omega);have hsz4:w.1.size+2<=u.1.size:=by have:=y.size;simp at this;omega
    clear hc4 y H3 C d0 H Z;by_cases h4:v4=0
    .subst h4;rw[Ma rfl]at c;go_wp2_with(at_builtin;refine wpList_append_lies _ rfl _ _ _ rfl (w.1.size+1) 181 ti _ 2 32 underlying108 HI.o ht0 ht1 ht2 rfl (by omega) (.slice (some ⟨g,0,none⟩) b.length x) b.length (vC b) rfl (by exact hC p.o zB) ⟨u.1.size,0,none⟩ 1 1 [.string t,.string z] rfl rfl (by exact World.news_of_block (cs:=#[.string t,.string z]) (heap_alloc_new _ _)) (by simp[Value.oneCell']) (by omega) (by simp[maxLen];omega) (by omega) (by simp;omega) (u.1.size+1) (by simp) ?_;intro g5 D w5 d l hat5 hlt5);have f:Below (w.1.size+1) u w5:=(((wF u _).mono (by omega)).grown l (by simp;omega) (λq hq=>zH p.o q hq))
     have J:(b++[(⟨t,z⟩:dC)]).length=b.length+1:=by simp
     have g0:vC b++[.string t,.string z]=vC (b++[⟨t,z⟩]):=by rw[cG];rfl
     rw[g0,<-J]at d;refine⟨⟨k+1,g5,D,by omega,by go_num,by rw[c.o,J],⟨by rw[c.o];exact H4.o.1.below (f.mono (by omega)),H4.o.2.1.upToD (f.mono (by omega)),H4.o.2.2.below f (by omega)⟩,by rw[c.o];exact d,by have:=f.size;omega⟩,by simp[intOf];omega⟩
    have h4':¬(((v4:Nat):Int)=0):=by omega
    rw[Ja h4]at c;go_wp2_with(at_builtin;refine wpList_append_lies _ rfl _ _ _ rfl (w.1.size+1) 181 ti _ 2 32 underlying108 HI.o ht0 ht1 ht2 rfl (by omega) (.slice (some ⟨u.1.size,0,none⟩) 1 1) 1 [.string t,.string z] rfl (by exact wa (by omega) (heap_alloc_new _ _)) ⟨g,0,none⟩ b.length x (vC b) rfl (vG b) (by exact lx (hC p.o zB)) (by exact pT b) (by omega) (by simp[maxLen];omega) (by omega) (by simp;omega) (u.1.size+1) (by simp) ?_;intro g5 D w5 d l hat5 hlt5);have f:Below (w.1.size+1) u w5:=(((wF u _).mono (by omega)).grown l (by simp;omega) (λq hq=>by simp[Value.ownBlock]at hq;omega))
    have J:((⟨t,z⟩:dC):: b).length=1+b.length:=by simp;omega
    have g0:[.string t,.string z]++vC b=vC (⟨t,z⟩:: b):=rfl;rw[g0,<-J]at d;refine⟨⟨k+1,g5,D,by omega,by go_num,by rw[c.o,J],⟨by rw[c.o];exact H4.o.1.below (f.mono (by omega)),H4.o.2.1.upToD (f.mono (by omega)),H4.o.2.2.below f (by omega)⟩,by rw[c.o];exact d,by have:=f.size;omega⟩,by simp[intOf];omega⟩
   have h0':¬(((v2:Nat):Int)=0):=by omega
   rw[Ja h0]at c;go_wp2;exact⟨⟨k+1,g,x,by omega,by go_num,by rw[c.o],by rw[c.o];exact H2.o,by rw[c.o];exact o.o,hsz2⟩,by simp[intOf];omega⟩
  have hk6:¬((k:Int)<6):=by omega
  have hke:k=6:=by omega
  subst hke;go_wp2;go_ret;exact⟨g,x,rfl,qI s.o (by omega),S.o.1,S.o.2.1⟩
