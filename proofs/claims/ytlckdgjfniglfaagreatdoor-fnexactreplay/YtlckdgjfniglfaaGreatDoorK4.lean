import Derived.Test.YtlckdgjfniglfaaGreatDoorK1
import Derived.Test.YtlckdgjfniglfaaGreatDoorF1
import Derived.Test.YtlckdgjfniglfaaGreatDoorEZA
set_option linter.unusedVariables false
set_option maxHeartbeats 8000000
set_option maxRecDepth 100000
namespace Go.Proofs.YtlckdgjfniglfaaGreatDoor
open Proofs.Tryz
open Go.RowKit
theorem c110 (b:Bool) (w:World):Calls prog 110 #[.bool b] w fun e w'=>e=.returned (.string (if b then ⟨#[49]⟩ else ⟨#[48]⟩))/\Below w.heap.size w w':=by
 cases b
 · go_enter func110,ntmps110
   go_wp2;go_ret;exact ⟨rfl,Below.refl _ _⟩
 · go_enter func110,ntmps110
   go_wp2;go_ret;exact ⟨rfl,Below.refl _ _⟩
def keyR (m:M3):ByteArray:=m.tl++⟨#[32]⟩++m.ar
theorem c131 (m:M3) (w:World) (hm:m.le 1048600):Calls prog 131 #[.agg #[.string m.nm,.string m.tl,.string m.ar]] w fun e w'=>e=.returned (.string (keyR m))/\Below w.heap.size w w':=by
 have h1:=hm.2.1;have h2:=hm.2.2;have hB:∀ o,Below w.heap.size w (w.alloc o):=fun o=>bA_;go_enter func131,ntmps131;go_wp2;go_ret;exact ⟨rfl,hB _⟩
def glT (x:L4):ByteArray:=if x.has then (if x.cd=0 then ⟨#[49]⟩ else ⟨#[48]⟩) else ofL (formR x.cd x.tx.data.toList)
theorem c156 (x:L4) (w:World) (hx:x.tx.size<=1048700):Calls prog 156 #[.agg #[.bool x.has,.string x.nm,.int .i64 x.cd,.string x.tx]] w fun e w'=>e=.returned (.string (glT x))/\Below w.heap.size w w':=by
 obtain ⟨h,nm,cd,tx⟩:=x;simp only at hx ⊢;have hB:∀ o,Below w.heap.size w (w.alloc o):=fun o=>bA_;cases h
 · go_enter func156,ntmps156
   go_wp2_with fail
   refine (c130 cd tx _ hx).mono ?_;rintro e w1 ⟨rfl,hb1⟩;have hB1:=(hB (.cells #[.bool false,.string nm,.int .i64 cd,.string tx] 74)).trans (hb1.mono sm_);clear hb1;go_wp2;go_ret;exact ⟨rfl,hB1⟩
 · by_cases h0:cd=0
   · subst h0
     go_enter func156,ntmps156;go_wp2;go_ret;exact ⟨rfl,hB _⟩
   · have h1:(cd==0)=false:=by simpa using h0
     have hG:Hid (glT ⟨true,nm,cd,tx⟩=⟨#[48]⟩):=by show glT _=_;unfold glT;simp [h0]
     go_enter func156,ntmps156;go_wp2;go_ret;exact ⟨by rw [hG.out];rfl,hB _⟩
theorem c157 (xg yg:List G3) (ai bi:Option Addr) (ci di:Nat) (w:World) (hl:xg.length<=1048576) (hl':yg.length<=1048576) (hat:GlsAt w ai xg) (hat':GlsAt w bi yg):
 Calls prog 157 #[.slice ai xg.length ci,.slice bi yg.length di] w fun e w'=>Rb (xg=yg) e/\Below w.heap.size w w':=by
 by_cases hn:xg.length=yg.length
 · rw [<- hn]
   have HNn:=hI_ hn;clear hn;obtain ⟨b,off,hc⟩:=gls_some hat;obtain ⟨b',off',hc'⟩:=gls_some hat';have HC:=hI_ hc;have HC':=hI_ hc';clear hc hc' hat hat';go_enter func157,ntmps157
   go_wp2_with fail
   go_loopw [13] (fun i wr=>∃ (k:Nat),k<=xg.length/\i=.int .i64 k/\Hid (∀ j,j<k->xg.getD j g3z=yg.getD j g3z)/\Below w.heap.size w wr) (fun i _=>xg.length - (intOf i).toNat)
   case atStart=>exact ⟨0,Nat.zero_le _,rfl,fun j h=>absurd h (Nat.not_lt_zero _),Below.refl _ _⟩
   case round=>
    obtain ⟨k,hk2,rfl,hd,hb⟩:=hrel;have hB1:=hb;by_cases hlt:k<xg.length
    · rcases HC.out with hss | ⟨ha,hbw,hcell⟩
      · rw [hss] at hlt;exact absurd hlt (Nat.not_lt_zero _)
      rcases HC'.out with hss | ⟨ha',hbw',hcell'⟩
      · have hn:=HNn.out;rw [hss] at hn;rw [hn] at hlt;exact absurd hlt (Nat.not_lt_zero _)
      subst ha;subst ha';have g0:=(hb.cell (p:=⟨b,off+k*3,none⟩) hbw).trans (hcell k hlt).1;have g1:=(hb.cell (p:=⟨b,off+k*3+1,none⟩) hbw).trans (hcell k hlt).2.1;have g2:=(hb.cell (p:=⟨b,off+k*3+2,none⟩) hbw).trans (hcell k hlt).2.2;have g0':=(hb.cell (p:=⟨b',off'+k*3,none⟩) hbw').trans (hcell' k (by have:=HNn.out;omega)).1;have g1':=(hb.cell (p:=⟨b',off'+k*3+1,none⟩) hbw').trans (hcell' k (by have:=HNn.out;omega)).2.1;have g2':=(hb.cell (p:=⟨b',off'+k*3+2,none⟩) hbw').trans (hcell' k (by have:=HNn.out;omega)).2.2;clear hcell hcell';by_cases hg:xg.getD k g3z=yg.getD k g3z
      · have HD:Hid (∀ j,j<k+1->xg.getD j g3z=yg.getD j g3z):=fun j hj=>by
         rcases Nat.lt_or_ge j k with h | h
         · exact hd.out j h
         · obtain rfl:j=k:=om_
           exact hg
        rw [<- hg] at g0' g1' g2';generalize xg.getD k g3z=X at*;clear hg hd
        go_wp2_with fail
        go_region
        all_goals go_wp2
        all_goals go_roundw
        all_goals first
         | exact ⟨k+1,om_,by go_num,HD,hb.drew⟩
         | (simp [intOf];omega)
      · have HN:Hid (¬ xg=yg):=fun h=>hg (by rw [h])
        generalize xg.getD k g3z=X at*;generalize yg.getD k g3z=Y at*;obtain ⟨n1,t1,r1⟩:=X;obtain ⟨n2,t2,r2⟩:=Y;by_cases q1:n1=n2
        · subst q1
          by_cases q2:t1=t2
          · subst q2
            have q3:¬ r1=r2:=fun h=>hg (by rw [h]);have q3':=list_ne q3;clear hg
            go_wp2_with fail
            go_region
            all_goals go_wp2
            all_goals go_ret
            all_goals exact ⟨rb_no HN.out,hB1.drew⟩
          · have q2':=list_ne q2
            clear hg
            go_wp2_with fail
            go_region
            all_goals go_wp2
            all_goals go_ret
            all_goals exact ⟨rb_no HN.out,hB1.drew⟩
        · have q1':(n1==n2)=false:=by simpa using q1
          clear hg
          go_wp2_with fail
          go_region
          all_goals go_wp2
          all_goals go_ret
          all_goals exact ⟨rb_no HN.out,hB1.drew⟩
    · obtain rfl:k=xg.length:=om_
      have HY:Hid (xg=yg):=by
       exact getD_all HNn.out hd.out
      go_wp2;go_ret;exact ⟨rb_yes HY.out,hB1⟩
 · have HN:Hid (¬ xg=yg):=fun h=>hn (by rw [h])
   have hn1:¬ (xg.length:Int)=yg.length:=om_;go_enter func157,ntmps157;go_wp2;go_ret;exact ⟨rb_no HN.out,Below.refl _ _⟩
theorem BlkAt.fill0 {u:World} {B:Nat} {old vs:List Value} (h:BlkAt u B old) (hl:old.length=vs.length):BlkAt (Go.Proofs.YtlckdgjfniglfaaGreatDoor.fill u B 0 vs) B vs:=by
 have k:=BlkAt.fill vs [] old [] 0 (by simpa using h) hl rfl;simpa using k
theorem heap_fill {B:Nat} (k:Nat) (hne:k≠B) (vs:List Value):∀ {u:World} (j:Nat),(fill u B j vs).heap[k]?=u.heap[k]?:=by
 induction vs with
 | nil=>intro u j;rfl
 | cons v vs ih=>
  intro u j;exact (ih (j+1)).trans (Below.heap_setCell _ _ _ _ hne)
theorem st_over {u:World} {B N:Nat} {old vs:List Value} {P:World->Prop} (hl:old.length=vs.length) (hB:BlkAt u B old) (hO:OpnAt u B) (hN:N<=B) (h:∀ u',Below N u u'->BlkAt u' B vs->OpnAt u' B->u.heap.size<=u'.heap.size->(∀ k,k<u.heap.size->k≠B->u'.heap[k]?=u.heap[k]?)->P u'):P (fill u B 0 vs):=
 h _ (below_fill hN _ _ (Below.refl _ _)) (BlkAt.fill0 hB hl) (OpnAt.fill _ _ hO) (by rw [size_fill];exact Nat.le_refl _) (fun k _ hne=>heap_fill k hne _ _)
theorem blk_some {u:World} {B:Nat} {old vs:List Value} (hB:BlkAt u B old) (hl:old.length=vs.length):∀ i,i<vs.length->(u.cell? ⟨B,0+i,none⟩).isSome=true:=fun i hi=>by
 rw [Nat.zero_add,hB i _ (List.getElem?_eq_getElem om_)];rfl
theorem step_store_blk {P:Program} {ops:Array Oper} {o:Oper} {a:Act} {w:World} {K:Act->World->Prop} {Q:Exit->Act->World->Prop} {E:Prop} (hg:o.guard=none) (ty:TypeId) (x y:Operand) (ho:o.op=.store ty x y)
 (B j:Nat) (hx:a.eval x=.pointer (some ⟨B,j,none⟩)) (vs:List Value) (hy:a.eval y=.agg vs.toArray) (hc:∀ i,i<vs.length->(w.cell? ⟨B,j+i,none⟩).isSome=true) (hf:OpnAt w B) (h1:∀ v∈vs,v.oneCell'=true)
 (hi:(P.info? ty).map (·.size)=some vs.length) (hdst:o.dst=none) (h:K a (fill w B j vs)):
 if Region.wanted o (yielded ops a.tmps)=true then Oper.wp P o a w K Q else E:=by
 have hw:Region.wanted o (yielded ops a.tmps)=true:=by simp [Region.wanted,hg]
 rw [if_pos hw];unfold Oper.wp execOp;simp only [ho,hx,hy,Instr.storeAt,Instr.sureAddr,Sem.run_bind,Sem.run_pure,Result.andThen_ok,run_storeVar_blk w B j ty vs hc hf h1 hi]
 first
  | exact h
  | (simp only [Oper.upon];exact h)
  | (simp only [Oper.upon,hdst];exact h)
theorem c132 (x:L4) (W:Int) (H:Nat) (w:World) (hx:x.tx.size<=1048600) (hH:H<w.heap.size) (hW:w.cell? ⟨H,0,none⟩=some (.int .i64 W)) (hg:(glT x).size<=1048700):
 Calls prog 132 #[.pointer (some ⟨H,0,none⟩),.agg #[.bool x.has,.string x.nm,.int .i64 x.cd,.string x.tx]] w fun e w'=>e=.returned (.agg #[.bool x.has,.string x.nm,.string (sumS (glT x) W)])/\Below w.heap.size w w':=by
 replace hx:x.tx.size<=1048700:=om_
 have hB0:Below w.heap.size w ((w.alloc (.cells #[.bool x.has,.string x.nm,.int .i64 x.cd,.string x.tx] 74)).alloc (.cells #[.bool false,.string ⟨#[]⟩,.string ⟨#[]⟩] 119)):=bA_.alloc sm_ _;have hz:((w.alloc (.cells #[.bool x.has,.string x.nm,.int .i64 x.cd,.string x.tx] 74)).alloc (.cells #[.bool false,.string ⟨#[]⟩,.string ⟨#[]⟩] 119)).heap.size=w.heap.size+2:=sm_;have hV0:=(hB0.cell (p:=⟨H,0,none⟩) hH).trans hW;have ZA:=hI_ ((blk_new w [.bool x.has,.string x.nm,.int .i64 x.cd,.string x.tx] 74).below ((Below.refl _ _).alloc lr_ (.cells #[.bool false,.string ⟨#[]⟩,.string ⟨#[]⟩] 119)) sm_);have ZB:Hid (BlkAt ((w.alloc (.cells #[.bool x.has,.string x.nm,.int .i64 x.cd,.string x.tx] 74)).alloc (.cells #[.bool false,.string ⟨#[]⟩,.string ⟨#[]⟩] 119)) (w.heap.size+1) [.bool false,.string ⟨#[]⟩,.string ⟨#[]⟩]):=fun j x hx=>by simp [go_sem,hx]
 have FB:Hid (OpnAt ((w.alloc (.cells #[.bool x.has,.string x.nm,.int .i64 x.cd,.string x.tx] 74)).alloc (.cells #[.bool false,.string ⟨#[]⟩,.string ⟨#[]⟩] 119)) (w.heap.size+1)):=fun j=>by simp [go_sem]
 go_enter func132,ntmps132
 go_wp2_with fail
 generalize ((w.alloc (.cells #[.bool x.has,.string x.nm,.int .i64 x.cd,.string x.tx] 74)).alloc (.cells #[.bool false,.string ⟨#[]⟩,.string ⟨#[]⟩] 119))=V at*;have hVd:Below V.heap.size V V.drew:=(Below.refl _ _).drew;have p0d:=(ZA.out.below hVd om_) 0 _ rfl;have p1d:=(ZA.out.below hVd om_) 1 _ rfl;have p2d:=(ZA.out.below hVd om_) 2 _ rfl;have p3d:=(ZA.out.below hVd om_) 3 _ rfl;have pHd:=(hVd.cell (p:=⟨H,0,none⟩) (show H<V.heap.size by omega)).trans hV0;refine wp_region_held_drew (S:=(fun u=>u.cell? ⟨w.heap.size,0,none⟩=some (.bool x.has)/\u.cell? ⟨w.heap.size,1,none⟩=some (.string x.nm)/\u.cell? ⟨w.heap.size,2,none⟩=some (.int .i64 x.cd)/\u.cell? ⟨w.heap.size,3,none⟩=some (.string x.tx)/\u.cell? ⟨H,0,none⟩=some (.int .i64 W))) kr_ ?_ fun hHeld=>?_
 · exact ⟨p0d,p1d,p2d,p3d,pHd⟩
 refine tq 0 hHeld ?_
 try simp only [qq]
 refine tq 1 hHeld ?_
 try simp only [qq]
 refine tq 2 hHeld ?_
 try simp only [qq]
 refine tq 3 hHeld ?_
 try simp only [qq]
 refine tq 4 hHeld ?_
 try simp only [qq]
 refine tq 6 hHeld ?_
 try simp only [qq]
 refine tq 7 hHeld ?_
 try simp only [qq]
 refine tq 8 hHeld ?_
 try simp only [qq]
 refine tq 9 hHeld ?_
 try simp only [qq]
 refine rq 5 fun K hK=>?_;go_simp;refine (c156 x V.drew hx).mono ?_;rintro e w1 ⟨rfl,hb1⟩;have h1:=bT_ hVd hb1;clear hb1;have p0a:=(ZA.out.below h1 om_) 0 _ rfl;have p1a:=(ZA.out.below h1 om_) 1 _ rfl;have p2a:=(ZA.out.below h1 om_) 2 _ rfl;have p3a:=(ZA.out.below h1 om_) 3 _ rfl;have pHa:=(h1.cell (p:=⟨H,0,none⟩) (show H<V.heap.size by omega)).trans hV0;go_simp;clear hHeld;refine hK.out _ _ ?_ fun hHeld=>?_
 · exact ⟨p0a,p1a,p2a,p3a,pHa⟩
 clear hK K
 try simp only [qq]
 refine rq 10 fun K hK=>?_;go_simp;refine (c40 (glT x) W w1 hg).mono ?_;rintro e w2 ⟨rfl,hb2⟩;have h2:=bT_ h1 hb2;clear hb2;have p0b:=(ZA.out.below h2 om_) 0 _ rfl;have p1b:=(ZA.out.below h2 om_) 1 _ rfl;have p2b:=(ZA.out.below h2 om_) 2 _ rfl;have p3b:=(ZA.out.below h2 om_) 3 _ rfl;have pHb:=(h2.cell (p:=⟨H,0,none⟩) (show H<V.heap.size by omega)).trans hV0;go_simp;clear hHeld;refine hK.out _ _ ?_ fun hHeld=>?_
 · exact ⟨p0b,p1b,p2b,p3b,pHb⟩
 clear hK K
 try simp only [qq]
 refine tq 11 hHeld ?_
 try simp only [qq]
 refine rq 12 fun K hK=>?_;have Z2:=hI_ (ZB.out.below h2 om_);have F2:=hI_ (FB.out.below h2 om_);refine step_store_blk rfl 119 (.tmp 4) (.tmp 16) rfl (w.heap.size+1) 0 rfl [.bool x.has,.string x.nm,.string (sumS (glT x) W)] rfl (blk_some Z2.out rfl) F2.out (by simp [Value.oneCell']) kr_ rfl ?_;clear hHeld;have hbF:Below (w.heap.size+1) w2 (fill w2 (w.heap.size+1) 0 [.bool x.has,.string x.nm,.string (sumS (glT x) W)]):=below_fill lr_ _ _ (Below.refl _ _);have ZF:=hI_ (Z2.out.fill0 (vs:=[.bool x.has,.string x.nm,.string (sumS (glT x) W)]) rfl);have hs2:=h2.size;have c0:=(hbF.cell (p:=⟨w.heap.size,0,none⟩) (show w.heap.size<_ by omega)).trans p0b;have c1:=(hbF.cell (p:=⟨w.heap.size,1,none⟩) (show w.heap.size<_ by omega)).trans p1b;have c2:=(hbF.cell (p:=⟨w.heap.size,2,none⟩) (show w.heap.size<_ by omega)).trans p2b;have c3:=(hbF.cell (p:=⟨w.heap.size,3,none⟩) (show w.heap.size<_ by omega)).trans p3b;have cH:=(hbF.cell (p:=⟨H,0,none⟩) (show H<_ by omega)).trans pHb;have hBF:=(bT_ hB0 h2).trans (hbF.mono om_);generalize fill w2 (w.heap.size+1) 0 [.bool x.has,.string x.nm,.string (sumS (glT x) W)]=E at*;refine hK.out _ _ ⟨c0,c1,c2,c3,cH⟩ fun hHeld=>?_;clear hK K;refine wpAnyH_done kr_ ?_ _
 go_wp2_with fail
 refine bodyPost_ret (v:=.agg ([.bool x.has,.string x.nm,.string (sumS (glT x) W)]:List Value).toArray) (results_blk (P:=prog) (ty:=119) rfl _ E (w.heap.size+1) [.bool x.has,.string x.nm,.string (sumS (glT x) W)] _ rfl ZF.out underlying119 rfl kr_) rfl ⟨rfl,hBF⟩
theorem c133 (x y:R3) (ai bi:Option Addr) (ci di:Nat) (w:World) (hl:x.gs.length<=1048576) (hl':y.gs.length<=1048576) (hat:GlsAt w ai x.gs) (hat':GlsAt w bi y.gs):
 Calls prog 133 #[.agg #[.string x.key,.slice ai x.gs.length ci,.string x.out],.agg #[.string y.key,.slice bi y.gs.length di,.string y.out]] w fun e w'=>Rb (x=y) e/\Below w.heap.size w w':=by
 obtain ⟨xk,xg,xo⟩:=x;obtain ⟨yk,yg,yo⟩:=y;simp only at hl hl' hat hat' ⊢;have hB:∀ o o',Below w.heap.size w ((w.alloc o).alloc o'):=fun o o'=>bA_.alloc sm_ _;by_cases hk:xk=yk
 · subst hk
   by_cases ho:xo=yo
   · subst ho
     have HX:=hI_ (gls_below hat (hB (.cells #[.string xk,.slice ai xg.length ci,.string xo] 96) (.cells #[.string xk,.slice bi yg.length di,.string xo] 96)));have HY:=hI_ (gls_below hat' (hB (.cells #[.string xk,.slice ai xg.length ci,.string xo] 96) (.cells #[.string xk,.slice bi yg.length di,.string xo] 96)));have hB0:=hB (.cells #[.string xk,.slice ai xg.length ci,.string xo] 96) (.cells #[.string xk,.slice bi yg.length di,.string xo] 96);clear hat hat';go_enter func133,ntmps133
     go_wp2_with fail
     refine (c157 xg yg ai bi ci di _ hl hl' HX.out HY.out).mono ?_;rintro e w1 ⟨hR,hb1⟩;have hB1:=bT_ hB0 hb1;obtain ⟨q,rfl,hq⟩:=hR;have HQ:Hid (Rb (R3.mk xk xg xo=R3.mk xk yg xo) (.returned (.bool q))):=⟨q,rfl,hq.trans ⟨fun h=>by rw [h],fun h=>by injection h⟩⟩;clear hq hb1 HX HY hB0;go_wp2;go_ret;exact ⟨HQ.out,hB1⟩
   · have HN:Hid (¬ R3.mk xk xg xo=R3.mk xk yg yo):=fun h=>ho (by injection h)
     have ho1:=list_ne ho;go_enter func133,ntmps133;go_wp2;go_ret;exact ⟨rb_no HN.out,hB _ _⟩
 · have HN:Hid (¬ R3.mk xk xg xo=R3.mk yk yg yo):=fun h=>hk (by injection h)
   have hk1:=list_ne hk;go_enter func133,ntmps133;go_wp2;go_ret;exact ⟨rb_no HN.out,hB _ _⟩
theorem wpList_app {P:Program} {ops:Array Oper} {rest:List Oper} {o:Oper} {a:Act} {w:World} {Q:Exit->Act->World->Prop}
 (hgd:o.guard=none) (s x:Operand) (t:TypeId) (hop:o.op=Op.call { callee:=Callee.builtin Builtin.append,args:=#[s,x],argTypes:=#[t,t] })
 (base:Nat) (e:TypeId) (i:TypeInfo) (z:Value) (size bytes:Nat) (h1:P.underlying t=some (.slice e)) (h2:P.info? e=some i) (h3:i.zero=some z) (h4:i.size=size) (h5:i.bytes=bytes) (h6:z.cells.size=size) (h7:0<size)
 (v:Value) (n:Nat) (xs:List Value) (hs:a.eval s=v) (hown:w.ownsRow base e size v n xs)
 (ad:Addr) (m c:Nat) (news:List Value) (hx:a.eval x=.slice (some ad) m c) (hn:news.length=m*size) (hc:∀ j u,news[j]?=some u->w.cell? (ad.add j)=some u) (h1c:∀ u∈news,u.oneCell'=true)
 (b1:n+m<=maxLen) (b2:(n+m)*bytes<=140737488355328) (hb:base<=w.heap.size)
 (hK:∀ v' w',w'.ownsRow base e size v' (n+m) (xs++news)->w.grownBy w' v.ownBlock->wpList P ops Q rest (a.put o.dst v') w'):wpList P ops Q (o::rest) a w:=by
 refine wpList_plain hgd fun K hK'=>?_;obtain ⟨v',w',hrun,r1,r2,_⟩:=run_append_own (P:=P) w base t o.type e i z size bytes h1 h2 h3 h4 h5 h6 h7 v n xs hown ad m c news hn hc h1c b1 b2 hb;unfold Oper.wp;simp [execOp,hop,resolve,invoke,builtin,hs,hx,hrun,Result.andThen];exact hK' _ _ (hK v' w' r1 r2)
theorem own_blk {u:World} {base e size n:Nat} {v:Value} {xs:List Value} (h:u.ownsRow base e size v n xs) {k:Nat} (hk:v.ownBlock=some k):base<=k:=by
 rcases h.2 with ⟨hv,_⟩ | ⟨g,cap,cur,hv,hg,hh,_⟩
 · subst hv;simp [Value.ownBlock] at hk
 · subst hv
   simp [Value.ownBlock] at hk;omega
theorem row_form {u:World} {base e size n:Nat} {v:Value} {xs:List Value} (h:u.ownsRow base e size v n xs):∃ a c,v=.slice a n c:=by
 rcases h.2 with ⟨hv,h0⟩ | ⟨g,cap,cur,hv,hg,hh,_⟩
 · exact ⟨none,0,by rw [hv,h0]⟩
 · exact ⟨_,_,hv⟩
def askR:List L4->List (Int×ByteArray)
 | []=>[]
 | x::r=>if x.has then askR r else (x.cd,x.tx)::askR r
theorem askR_snoc (l:List L4) (x:L4):askR (l++[x])=askR l++(if x.has then [] else [(x.cd,x.tx)]):=by
 induction l with
 | nil=>cases h:x.has <;> simp [askR,h]
 | cons y r ih=>cases h:y.has <;> simp [askR,h,ih]
theorem askR_len (l:List L4):(askR l).length<=l.length:=by
 induction l with
 | nil=>exact Nat.le_refl _
 | cons y r ih=>cases h:y.has <;> simp [askR,h] <;> omega
def resC (rs:List (Int×ByteArray)):List Value:=rs.flatMap fun r=>[.int .i64 r.1,.string r.2]
theorem resC_snoc (l:List (Int×ByteArray)) (c:Int) (s:ByteArray):resC (l++[(c,s)])=resC l++[.int .i64 c,.string s]:=by simp [resC]
theorem take_next {l:List L4} {k:Nat} (h:k<l.length):l.take (k+1)=l.take k++[l.getD k l4z]:=by
 rw [List.take_add_one,List.getElem?_eq_getElem h];simp [List.getD,List.getElem?_eq_getElem h]
theorem info45:(prog.info? 45).map (fun i=>(i.zero,i.size,i.bytes))=some (some (.agg #[.int .i64 0,.string ⟨#[]⟩]),2,24):=kr_
theorem info_parts' {P:Program} {e:TypeId} {z:Value} {n m:Nat} (h:(P.info? e).map (fun i=>(i.zero,i.size,i.bytes))=some (some z,n,m)):∃ i,P.info? e=some i/\i.zero=some z/\i.size=n/\i.bytes=m:=by
 cases hq:P.info? e with
 | none=>simp [hq] at h
 | some i=>
  simp only [hq,Option.map_some,Option.some.injEq,Prod.mk.injEq] at h;exact ⟨i,rfl,h.1,h.2.1,h.2.2⟩
theorem c129 (ls:List L4) (a:Option Addr) (cap:Nat) (w:World) (hl:ls.length<=1048576) (hat:LksAt w a ls):
 Calls prog 129 #[.slice a ls.length cap] w fun e w'=>(∃ v,e=.returned v/\w'.ownsRow w.heap.size 45 2 v (askR ls).length (resC (askR ls)))/\Below w.heap.size w w':=by
 obtain ⟨i0,hi,hz0,hz1,hz2⟩:=info_parts' info45;obtain ⟨b,off,hc⟩:=lks_some hat;have HC:=hI_ hc;clear hc hat;go_enter func129,ntmps129
 go_wp2_with fail
 go_loopw [3,8] (fun v i wr=>∃ (k:Nat),k<=ls.length/\i=.int .i64 k/\Hid (wr.ownsRow w.heap.size 45 2 v (askR (ls.take k)).length (resC (askR (ls.take k))))/\Below w.heap.size w wr) (fun _ i _=>ls.length - (intOf i).toNat)
 case atStart=>exact ⟨0,Nat.zero_le _,rfl,World.ownsRow_nil _ _ _ _,Below.refl _ _⟩
 case round=>
  obtain ⟨k,hk,rfl,HO,hb⟩:=hrel;by_cases hlt:k<ls.length
  · rcases HC.out with hss | ⟨ha,hbw,hcell⟩
    · rw [hss] at hlt;exact absurd hlt (Nat.not_lt_zero _)
    subst ha;have g0:=(hb.cell (p:=⟨b,off+k*4,none⟩) hbw).trans (hcell k hlt).1;have g1:=(hb.cell (p:=⟨b,off+k*4+1,none⟩) hbw).trans (hcell k hlt).2.1;have g2:=(hb.cell (p:=⟨b,off+k*4+2,none⟩) hbw).trans (hcell k hlt).2.2.1;have g3:=(hb.cell (p:=⟨b,off+k*4+3,none⟩) hbw).trans (hcell k hlt).2.2.2;have HT:=hI_ (take_next hlt);have hln:(askR (ls.take k)).length<=1048576:=Nat.le_trans (askR_len _) so_;clear hcell;generalize hx:ls.getD k l4z=x at*;clear hx;obtain ⟨h,nm,cd,tx⟩:=x;simp only at g0 g1 g2 g3;have hz:=hb.size;cases h
    · have HA:Hid (askR (ls.take (k+1))=askR (ls.take k)++[(cd,tx)]):=by
       show askR _=_;rw [HT.out,askR_snoc];simp
      have hA2:Below w.heap.size w ((wr.alloc (.cells #[.bool false,.string nm,.int .i64 cd,.string tx] 74)).alloc (.cells #[.int .i64 cd,.string tx] 45)):=(hb.alloc hz _).alloc so_ _;have H2:=hI_ (World.ownsRow.alloc (World.ownsRow.alloc HO.out (.cells #[.bool false,.string nm,.int .i64 cd,.string tx] 74)) (.cells #[.int .i64 cd,.string tx] 45));have hzA:((wr.alloc (.cells #[.bool false,.string nm,.int .i64 cd,.string tx] 74)).alloc (.cells #[.int .i64 cd,.string tx] 45)).heap.size=wr.heap.size+2:=sm_;have HR:Hid (∀ j u,([.int .i64 cd,.string tx]:List Value)[j]?=some u->((wr.alloc (.cells #[.bool false,.string nm,.int .i64 cd,.string tx] 74)).alloc (.cells #[.int .i64 cd,.string tx] 45)).cell? ((⟨wr.heap.size+1,0,none⟩:Addr).add j)=some u):=fun j u hj=>by
       rw [adr_add,Nat.zero_add]
       match j with
       | 0=>obtain rfl:=Option.some.inj hj;simp [go_sem]
       | 1=>obtain rfl:=Option.some.inj hj;simp [go_sem]
       | j+2=>simp at hj
      clear HO
      go_wp2_with (refine wpList_app rfl (.tmp 15) (.tmp 18) 201 rfl w.heap.size 45 i0 (.agg #[.int .i64 0,.string ⟨#[]⟩]) 2 24 underlying201 hi hz0 hz1 hz2 rfl dc_ _ _ _ rfl H2.out ⟨wr.heap.size+1,0,none⟩ 1 1 [.int .i64 cd,.string tx] rfl rfl HR.out (by simp [Value.oneCell']) (by unfold maxLen;omega) om_ om_ ?_;intro v2 w2 hO2 hgrow;obtain ⟨a2,c2,rfl⟩:=row_form hO2;have HO2:=hI_ hO2;have hB2:Below w.heap.size w w2:=hA2.grown hgrow om_ (fun q hq=>own_blk H2.out hq);clear hO2 hgrow H2 HR)
      go_roundw
      case rel=>exact ⟨k+1,om_,by go_num,by rw [HA.out,resC_snoc,List.length_append];exact HO2.out,hB2⟩
      case measure=>simp [intOf];omega
    · have HA:Hid (askR (ls.take (k+1))=askR (ls.take k)):=by
       show askR _=_;rw [HT.out,askR_snoc];simp
      have hA1:Below w.heap.size w (wr.alloc (.cells #[.bool true,.string nm,.int .i64 cd,.string tx] 74)):=hb.alloc hz _;have H1:=hI_ (World.ownsRow.alloc HO.out (.cells #[.bool true,.string nm,.int .i64 cd,.string tx] 74));go_wp2;go_roundw
      case rel=>exact ⟨k+1,om_,by go_num,by rw [HA.out];exact H1.out,hA1⟩
      case measure=>simp [intOf];omega
  · obtain rfl:k=ls.length:=om_
    obtain ⟨a3,c3,rfl⟩:=row_form HO.out;have HF:Hid (wr.ownsRow w.heap.size 45 2 (.slice a3 (askR (List.take ls.length ls)).length c3) (askR ls).length (resC (askR ls))):=by show World.ownsRow _ _ _ _ _ _ _;have h:=HO.out;rw [List.take_length] at h ⊢;exact h
    go_wp2;go_ret;exact ⟨⟨_,rfl,HF.out⟩,hb⟩
end Go.Proofs.YtlckdgjfniglfaaGreatDoor
