package atlas

// chapter is what chapter 18 lists for P18.1, each line with its line feed.
const chapter = `place "Old Mill" { }
place "Green Hill" { always 1 { aura (both here all) 1; } }
place "Black Marsh" { always 1 { aura (both here all) -1; } }
place "Market" { reveal { draw both 1; } }
place "Well" { enter { draw mine 1; } }
place "Forge" { enter { power it 1; } }
place "Ruin" { enter { power it -1; } }
place "Narrow Pass" { always 1 { if count (both here all) >= 4 { bar both here; } } }
place "Watchtower" { always 1 { shield (both here all); } }
place "Rope Bridge" { end { move (both here weakest) right; } }
place "Tavern" { end { power (both here cost <= 2 all) 1; } }
place "Chapel" { reveal { spawn "Pilgrim" both here 2; } }
place "Quarry" { enter { energy mine 1; } }
place "Tar Pit" { enter { energy mine -1; } }
place "Mirror Lake" { enter { spawn "Echo" theirs here 1; } }
place "Arena" { always 2 { aura (both here strongest) 3; } }
place "Nursery" { always 2 { aura (both here weakest) 3; } }
place "Crossroads" { enter { move it left; } }
place "Dragon Hoard" { always 1 { if round >= 6 { double both here; } } }
place "Quicksand" { end { power (both here strongest) -2; } }
place "Library" { reveal { draw both 2; } }
place "Gallows" { end { if round = 4 { destroy (both here weakest); } } }
place "Tide Pool" { end { return (both here cost <= 1 first); } }
place "Summit" { always 3 { aura (both here cost >= 5 all) 2; } }
`
