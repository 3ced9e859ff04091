"""untold: parties who reckon together and show nothing but what is told."""
